import Derived.Test.YtjjggefmmeminacGreatJBase
import Derived.Test.YtjjggefmmeminacGreatRows
import Derived.WalkSpells
import Derived.WalkLawsBesides
/-
  The contract of stitchref1.SameTexts where both are the same: true.
-/
namespace Go.Proofs.YtjjggefmmeminacGreat
open Go.RowKit Go.Sort

set_option maxRecDepth 100000 in
set_option maxHeartbeats 1000000 in
theorem sameTexts_any (a b : Option Addr) (n c d : Nat) (K : Nat → ByteArray) (w : World) (hA : KeysAt w a n K) (hB : KeysAt w b n K) :
    Calls Tryz.prog 26 #[.slice a n c, .slice b n d] w fun e w' => e = .returned (.bool true) ∧ Below w.heap.size w w' := by
  have hn : n ≤ 9223372036854775807 := hA.1
  have HA : Hid (KeysAt w a n K) := hA
  have HB : Hid (KeysAt w b n K) := hB
  clear hA hB
  go_enter Tryz.func26, Tryz.ntmps26
  go_wp2_with fail
  go_loopw [13] (fun i wr => ∃ k : Nat, k ≤ n ∧ i = .int .i64 k ∧ Below w.heap.size w wr) (fun i _ => n - (intOf i).toNat)
  case atStart => exact ⟨0, Nat.zero_le _, rfl, Below.refl _ _⟩
  case round =>
    obtain ⟨k, hk, rfl, hw⟩ := hrel
    by_cases hlt : k < n
    · obtain ⟨b1, o1, rfl, f0, -⟩ := (HA.out.kept hw).2 k hlt
      obtain ⟨b2, o2, rfl, g0, -⟩ := (HB.out.kept hw).2 k hlt
      have hlt' : (k : Int) < (n : Int) := by omega
      have hk0 : (0 : Int) ≤ (k : Int) := by omega
      have HW : Hid (Below w.heap.size w wr) := hw
      clear hw
      go_wp2_with fail
      go_quiet (fail)
      go_wp2_with fail
      go_roundw
      case rel => exact ⟨k + 1, by omega, by go_num, HW.out.trans ((below_drewN wr _).mono HW.out.size)⟩
      case measure => simp [intOf]; omega
    · have HW : Hid (Below w.heap.size w wr) := hw
      clear hw
      go_wp2_with fail
      go_ret
      exact ⟨rfl, HW.out⟩
end Go.Proofs.YtjjggefmmeminacGreat
