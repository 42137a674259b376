import Derived.Test.YtbnjflajhlnifaaRmTy
import Derived.Test.YtbnjflajhlnifaaPieces
/-
  Pieces of stitchref1.All's code.
-/
namespace Go.Proofs.Ytbnjflajhlnifaa

noncomputable def allBlock (n : Nat) : Code := (Try.f35.body.bind (blockOf n)).getD .skip
noncomputable def allSeq (n : Nat) : Code := (Try.f35.body.bind (seqOf n)).getD .skip
end Go.Proofs.Ytbnjflajhlnifaa
