import Derived.Test.YtjjggefmmeminabGreatJMt
namespace Go.Proofs.YtjjggefmmeminabGreat
open Go.RowKit Go.Sort Go.PlainAid
end Go.Proofs.YtjjggefmmeminabGreat
