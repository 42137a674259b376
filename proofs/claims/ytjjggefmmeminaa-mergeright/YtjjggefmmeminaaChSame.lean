import Derived.Test.YtjjggefmmeminaaChTypes
import Derived.Test.YtjjggefmmeminaaChSameT
import Derived.Test.YtjjggefmmeminaaRefTexts
/-
  The contracts of stitchref1.SameType and SameTypes where both are the same: true.
-/
namespace Go.Proofs.Ytjjggefmmeminaa
open Go.RowKit Go.Sort

set_option maxRecDepth 100000 in
set_option maxHeartbeats 1000000 in
theorem sameTypes_any (a b : Option Addr) (n c d : Nat) (T T' : Nat → LType) (w : World) (hA : TypesAt w a n T) (hB : TypesAt w b n T') (hs : ∀ i, i < n → (T' i).name = (T i).name ∧ (T' i).nf = (T i).nf ∧ ∀ j, j < (T i).nf → (T' i).F j = (T i).F j) :
    Calls Try.prog 29 #[.slice a n c, .slice b n d] w fun e w' => e = .returned (.bool true) ∧ Below w.heap.size w w' := by
  have hn : n ≤ 9223372036854775807 := hA.1
  have HA : Hid (TypesAt w a n T) := hA
  have HB : Hid (TypesAt w b n T') := hB
  have HS : Hid (∀ i, i < n → (T' i).name = (T i).name ∧ (T' i).nf = (T i).nf ∧ ∀ j, j < (T i).nf → (T' i).F j = (T i).F j) := hs
  clear hA hB hs
  go_enter Try.func29, Try.ntmps29
  go_wp2_with fail
  go_loopw [13] (fun i wr => ∃ k : Nat, k ≤ n ∧ i = .int .i64 k ∧ Below w.heap.size w wr) (fun i _ => n - (intOf i).toNat)
  case atStart => exact ⟨0, Nat.zero_le _, rfl, Below.refl _ _⟩
  case round =>
    obtain ⟨k, hk, rfl, hw⟩ := hrel
    by_cases hlt : k < n
    · obtain ⟨b1, o1, rfl, f0, f1, -, -, hF⟩ := (HA.out.kept hw).2 k hlt
      obtain ⟨b2, o2, rfl, g0, g1, -, -, hG⟩ := (HB.out.kept hw).2 k hlt
      obtain ⟨e1, e2, e3⟩ := HS.out k hlt
      rw [e1] at g0
      rw [e2] at g1 hG
      have hG' := hG.congr e3
      have hlt' : (k : Int) < (n : Int) := by omega
      have hk0 : (0 : Int) ≤ (k : Int) := by omega
      have cS : ∀ dd os, Calls Try.prog 32 #[.agg #[.string (T k).name, .slice (T k).fa (T k).nf (T k).fcap], .agg #[.string (T k).name, .slice (T' k).fa (T k).nf (T' k).fcap]] (grow (redrawn wr dd) os) fun e w'' => e = .returned (.bool true) ∧ ∃ p : Regrown, w'' = grow (redrawn wr p.d) p.os := fun dd os => Calls.regrown_of (sameType_any _ _ _ _ _ _ (T k).F _ (hF.kept (below_regrown wr dd os)) (hG'.kept (below_regrown wr dd os)))
      have r0 := cell_regrown f0
      have r1 := cell_regrown f1
      have r2 := cell_regrown g0
      have r3 := cell_regrown g1
      have HW : Hid (Below w.heap.size w wr) := hw
      clear hw hF hG hG' e1 e2 e3
      go_wp2_with fail
      refine wp_region_quiet_below (by kernel_rfl) (by kernel_rfl) ?_
      repeat (go_big_quiet_step (first | exact cS _ _))
      refine wpQuiet_nil ?_
      intro _ hw'
      obtain ⟨⟨dq, osq⟩, hw''⟩ := hw'
      subst hw''
      have HW2 : Hid (Below w.heap.size w (grow (redrawn wr dq) osq)) := HW.out.trans ((below_regrown wr dq osq).mono HW.out.size)
      clear cS r0 r1 r2 r3 f0 f1 g0 g1
      go_wp2_with fail
      go_roundw
      case rel => exact ⟨k + 1, by omega, by go_num, HW2.out⟩
      case measure => simp [intOf]; omega
    · have HW : Hid (Below w.heap.size w wr) := hw
      clear hw
      go_wp2_with fail
      go_ret
      exact ⟨rfl, HW.out⟩
end Go.Proofs.Ytjjggefmmeminaa
