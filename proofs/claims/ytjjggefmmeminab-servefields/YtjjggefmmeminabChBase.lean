/-
  A row of the call's own lies behind any lower base, too.
-/
import Derived.Test.YtjjggefmmeminabRowm
namespace Go.Proofs.Ytjjggefmmeminab
open Go.RowKit Go.Sort

theorem Row.base {w : World} {base base' e size n : Nat} {v : Value} {f : Nat → Value} (h : Row w base e size v n f) (hb : base' ≤ base) : Row w base' e size v n f := by
  refine ⟨h.1, ?_⟩
  rcases h.2 with h | ⟨g, cap, cur, rfl, hg, r⟩
  · exact .inl h
  · exact .inr ⟨g, cap, cur, rfl, Nat.le_trans hb hg, r⟩
theorem Try.info99 : (Try.prog.info? 99).map (fun i => (i.zero, i.size, i.bytes)) = some (some (.agg #[.string ⟨#[]⟩, .slice none 0 0]), 2, 40) := by kernel_rfl
end Go.Proofs.Ytjjggefmmeminab
