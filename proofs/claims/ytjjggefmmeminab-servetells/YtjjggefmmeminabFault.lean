/-
  The contract of schema.firstFault: handed a function that tells g i at each i below n, it answers the first error, at its number.
-/
import Derived.Test.YtjjggefmmeminabIdx
namespace Go.Proofs.Ytjjggefmmeminab
open Go.RowKit

/-- Called at each i below n, in every world that keeps what w holds, the function answers g i and keeps what is there. -/
def Gives (K : Nat) (caps : Array Value) (w : World) (n : Nat) (g : Nat → Int) : Prop :=
  ∀ i : Nat, i < n → ∀ w1 : World, Below w.heap.size w w1 → Calls Try.prog K (#[.int .i64 (i : Int)] ++ caps) w1 fun e w' => e = .returned (.int .i64 (g i)) ∧ Below w1.heap.size w1 w'

/-- A fault, as a value. -/
def faultV (f : Int × Int) : Value := .agg #[.int .i64 f.1, .int .i64 f.2]

set_option maxHeartbeats 400000 in
theorem firstFault_any (n : Nat) (hn : n ≤ 9223372036854775807) (K : Nat) (caps : Array Value) (g : Nat → Int) (w : World) (eK : ∀ args w, (callFunc K args).run Try.prog w = .ok (.enter K args) w) (hp : Gives K caps w n g) :
    Calls Try.prog 102 #[.int .i64 (n : Int), .func (.func K) #[] caps] w fun e w' => e = .returned (faultV (fault n g)) ∧ Below w.heap.size w w' := by
  have HP : Hid (Gives K caps w n g) := hp
  clear hp
  go_enter Try.func102, Try.ntmps102
  go_wp2
  go_loopw [8] (fun i wr => ∃ k : Nat, k ≤ n ∧ i = .int .i64 k ∧ Hid (∀ j, j < k → g j = 0) ∧ Below w.heap.size w wr ∧ w.heap.size < wr.heap.size ∧ wr.cell? ⟨w.heap.size, 0, none⟩ = some (.int .i64 0) ∧ wr.cell? ⟨w.heap.size, 1, none⟩ = some (.int .i64 0) ∧ wr.frozen? ⟨w.heap.size, 0, none⟩ = false ∧ wr.frozen? ⟨w.heap.size, 1, none⟩ = false) (fun i _ => n - (intOf i).toNat)
  case atStart =>
    refine ⟨0, Nat.zero_le _, rfl, (fun j hj => absurd hj (Nat.not_lt_zero _)), (Below.refl _ _).alloc (Nat.le_refl _) _, by simp, ?_, ?_, ?_, ?_⟩
    · rw [World.cell?_alloc_at _ _ _ _ rfl]; rfl
    · rw [World.cell?_alloc_at _ _ _ _ rfl]; rfl
    · exact World.frozen?_alloc_at _ _ _ _ rfl
    · exact World.frozen?_alloc_at _ _ _ _ rfl
  case round =>
    obtain ⟨k, hk, rfl, hb, hw, hz, c0, c1, f0, f1⟩ := hrel
    by_cases hlt : k < n
    · go_wp2_with fail
      refine (HP.out k hlt wr hw).mono ?_
      rintro e w1 ⟨rfl, hw1⟩
      have hw2 : Below w.heap.size w w1 := hw.trans (hw1.mono hw.size)
      have hz2 : w.heap.size < w1.heap.size := Nat.lt_of_lt_of_le hz hw1.size
      have d0 := (hw1.cell (p := ⟨w.heap.size, 0, none⟩) hz).trans c0
      have d1 := (hw1.cell (p := ⟨w.heap.size, 1, none⟩) hz).trans c1
      have g0 := (hw1.frozen (p := ⟨w.heap.size, 0, none⟩) hz).trans f0
      have g1 := (hw1.frozen (p := ⟨w.heap.size, 1, none⟩) hz).trans f1
      clear hw1 c0 c1 f0 f1
      by_cases hpk : g k = 0
      · have hb2 : Hid (∀ j, j < k + 1 → g j = 0) := fun j hj => by
          rcases Nat.lt_succ_iff_lt_or_eq.1 hj with h | h
          · exact hb j h
          · rw [h]; exact hpk
        have hpb : (g k != 0) = false := by simpa using hpk
        clear hpk
        go_wp2
        go_roundw
        case rel => exact ⟨k + 1, by omega, by go_num, hb2, hw2, hz2, d0, d1, g0, g1⟩
        case measure => simp [intOf]; omega
      · have hfin : Hid (fault n g = (g k, (k : Int))) := fault_hit hlt hpk hb
        have hpb : (g k != 0) = true := by simpa using hpk
        clear hpk
        go_wp2
        refine bodyPost_ret (v := .agg #[.int .i64 (g k), .int .i64 (k : Int)]) (by simp [results, Try.results102, go_sem, d0, d1]) rfl ⟨by rw [hfin.out]; rfl, ?_⟩
        exact (hw2.setCell (Nat.le_refl _) _).setCell (Nat.le_refl _) _
    · have hfin : Hid (fault n g = (0, 0)) := fault_none (fun j hj => hb j (by omega))
      go_wp2
      refine bodyPost_ret (v := .agg #[.int .i64 0, .int .i64 0]) (by simp [results, Try.results102, go_sem, c0, c1]) rfl ⟨by rw [hfin.out]; rfl, ?_⟩
      exact (hw.setCell (Nat.le_refl _) _).setCell (Nat.le_refl _) _
end Go.Proofs.Ytjjggefmmeminab
