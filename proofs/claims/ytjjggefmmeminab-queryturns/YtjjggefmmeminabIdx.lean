/-
  The contract of schema.index: handed a function that answers p i at each i below n, whatever has been laid meanwhile, it answers the first i with p i, or -1.
-/
import Derived.Test.YtjjggefmmeminabRows
import Derived.Test.YtjjggefmmeminabPlain
import Derived.WalkKit
import Derived.WalkSpells
import Derived.WalkLawsBesides
namespace Go.Proofs.Ytjjggefmmeminab
open Go.RowKit

/-- Called at each i below n, in every world that keeps what w holds, the function answers p i and keeps what is there. -/
def Pred (K : Nat) (caps : Array Value) (w : World) (n : Nat) (p : Nat → Bool) : Prop :=
  ∀ i : Nat, i < n → ∀ w1 : World, Below w.heap.size w w1 → Calls Try.prog K (#[.int .i64 (i : Int)] ++ caps) w1 fun e w' => e = .returned (.bool (p i)) ∧ Below w1.heap.size w1 w'

set_option maxHeartbeats 400000 in
theorem index_any (n : Nat) (hn : n ≤ 9223372036854775807) (K : Nat) (caps : Array Value) (p : Nat → Bool) (w : World) (eK : ∀ args w, (callFunc K args).run Try.prog w = .ok (.enter K args) w) (hp : Pred K caps w n p) :
    Calls Try.prog 65 #[.int .i64 (n : Int), .func (.func K) #[] caps] w fun e w' => e = .returned (.int .i64 (idx n p)) ∧ Below w.heap.size w w' := by
  have HP : Hid (Pred K caps w n p) := hp
  clear hp
  go_enter Try.func65, Try.ntmps65
  go_wp2
  go_loopw [7] (fun i wr => ∃ k : Nat, k ≤ n ∧ i = .int .i64 k ∧ Hid (∀ j, j < k → p j = false) ∧ Below w.heap.size w wr) (fun i _ => n - (intOf i).toNat)
  case atStart => exact ⟨0, Nat.zero_le _, rfl, (fun j hj => absurd hj (Nat.not_lt_zero _)), Below.refl _ _⟩
  case round =>
    obtain ⟨k, hk, rfl, hb, hw⟩ := hrel
    by_cases hlt : k < n
    · go_wp2_with fail
      refine (HP.out k hlt wr hw).mono ?_
      rintro e w1 ⟨rfl, hw1⟩
      have hw2 : Below w.heap.size w w1 := hw.trans (hw1.mono hw.size)
      clear hw1
      cases hpk : p k with
      | true =>
        have hfin : Hid (idx n p = (k : Int)) := idx_hit hlt hpk hb
        clear hpk
        go_wp2
        go_ret
        exact ⟨by rw [hfin.out]; rfl, hw2⟩
      | false =>
        have hb2 : Hid (∀ j, j < k + 1 → p j = false) := fun j hj => by
          rcases Nat.lt_succ_iff_lt_or_eq.1 hj with h | h
          · exact hb j h
          · rw [h]; exact hpk
        clear hpk
        go_wp2
        go_roundw
        case rel => exact ⟨k + 1, by omega, by go_num, hb2, hw2⟩
        case measure => simp [intOf]; omega
    · have hfin : Hid (idx n p = -1) := idx_none (fun j hj => hb j (by omega))
      go_wp2
      go_ret
      exact ⟨by rw [hfin.out]; rfl, hw⟩
end Go.Proofs.Ytjjggefmmeminab
