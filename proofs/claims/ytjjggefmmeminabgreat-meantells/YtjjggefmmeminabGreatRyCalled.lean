import Derived.Test.YtjjggefmmeminabGreatJQy
import Derived.WalkKit
import Derived.WalkSpells
/-
  The contract of stitchref4.Called.
-/
namespace Go.Proofs.YtjjggefmmeminabGreat
open Go.RowKit Go.Sort Go.PlainAid


set_option maxRecDepth 100000 in
set_option maxHeartbeats 400000 in
theorem rcalled_any (d : Nat) (p : Pick (d + 1)) (A : Option Addr) (n C : Nat) (w : World) :
    Calls Tryz.prog 46 #[.agg #[.string (nick p), .string (pfield p), .slice A n C]] w fun e w' => e = .returned (.string (called p)) ∧ Below w.heap.size w w' := by
  have hee := emp_eq (nick p)
  cases he : emp (nick p) with
  | true =>
    rw [he] at hee
    have HF : Hid (called p = pfield p) := by unfold called; rw [he]; rfl
    clear he
    go_enter Tryz.func46, Tryz.ntmps46
    go_wp2_with fail
    go_ret
    exact ⟨by rw [HF.out]; rfl, below1 _ _⟩
  | false =>
    rw [he] at hee
    have HF : Hid (called p = nick p) := by unfold called; rw [he]; rfl
    clear he
    go_enter Tryz.func46, Tryz.ntmps46
    go_wp2_with fail
    go_ret
    exact ⟨by rw [HF.out]; rfl, below1 _ _⟩

end Go.Proofs.YtjjggefmmeminabGreat
