/-
  The contracts of stitchref1.SameType, SameTypes and SameTexts where both are the same: true.
-/
import Derived.Test.YtjbgkkgnebjmnaaChTypes
namespace Go.Proofs.Ytjbgkkgnebjmnaa
open Go.RowKit Go.Sort

theorem FieldsAt.congr {w : World} {a : Option Addr} {n : Nat} {F G : Nat → LField} (h : FieldsAt w a n F) (e : ∀ j, j < n → F j = G j) : FieldsAt w a n G :=
  ⟨h.1, fun i hi => by obtain ⟨b, o, ha, hf⟩ := h.2 i hi; exact ⟨b, o, ha, by rw [← e i hi]; exact hf⟩⟩

set_option maxRecDepth 100000 in
set_option maxHeartbeats 1000000 in
theorem sameType_any (name : ByteArray) (a b : Option Addr) (nf c d : Nat) (F : Nat → LField) (w : World) (hA : FieldsAt w a nf F) (hB : FieldsAt w b nf F) :
    Calls Try.prog 32 #[.agg #[.string name, .slice a nf c], .agg #[.string name, .slice b nf d]] w fun e w' => e = .returned (.bool true) ∧ Below w.heap.size w w' := by
  have hn : nf ≤ 9223372036854775807 := hA.1
  have HA : Hid (FieldsAt w a nf F) := hA
  have HB : Hid (FieldsAt w b nf F) := hB
  clear hA hB
  generalize hW : (w.alloc (Obj.cells #[.string name, .slice a nf c] 34)).alloc (Obj.cells #[.string name, .slice b nf d] 34) = W
  have hBW : Below w.heap.size w W := by rw [← hW]; exact below2 _ _ _
  have c0 : W.cell? ⟨w.heap.size, 0, none⟩ = some (.string name) := by rw [← hW, World.cell?_alloc_past _ _ _ (by simp), World.cell?_alloc_at _ _ _ _ rfl]; rfl
  have c1 : W.cell? ⟨w.heap.size, 1, none⟩ = some (.slice a nf c) := by rw [← hW, World.cell?_alloc_past _ _ _ (by simp), World.cell?_alloc_at _ _ _ _ rfl]; rfl
  have d0 : W.cell? ⟨w.heap.size + 1, 0, none⟩ = some (.string name) := by rw [← hW, World.cell?_alloc_at _ _ _ _ (by simp)]; rfl
  have d1 : W.cell? ⟨w.heap.size + 1, 1, none⟩ = some (.slice b nf d) := by rw [← hW, World.cell?_alloc_at _ _ _ _ (by simp)]; rfl
  have HBW : Hid (Below w.heap.size w W) := hBW
  clear hBW
  go_enter Try.func32, Try.ntmps32
  go_wp2_with fail
  clear hW
  go_loopw [23] (fun i wr => ∃ k : Nat, k ≤ nf ∧ i = .int .i64 k ∧ Below W.heap.size W wr) (fun i _ => nf - (intOf i).toNat)
  case atStart => exact ⟨0, Nat.zero_le _, rfl, Below.refl _ _⟩
  case round =>
    obtain ⟨k, hk, rfl, hw⟩ := hrel
    by_cases hlt : k < nf
    · obtain ⟨b1, o1, rfl, f0, f1, f2, -⟩ := ((HA.out.kept HBW.out).kept hw).2 k hlt
      obtain ⟨b2, o2, rfl, g0, g1, g2, -⟩ := ((HB.out.kept HBW.out).kept hw).2 k hlt
      have hlt' : (k : Int) < (nf : Int) := by omega
      have hk0 : (0 : Int) ≤ (k : Int) := by omega
      have m1 := keptCell hw c1
      have n1 := keptCell hw d1
      have HW : Hid (Below W.heap.size W wr) := hw
      clear hw
      go_wp2_with fail
      go_quiet (fail)
      go_wp2_with fail
      go_roundw
      case rel => exact ⟨k + 1, by omega, by go_num, HW.out.trans ((below_drewN wr _).mono HW.out.size)⟩
      case measure => simp [intOf]; omega
    · have HW : Hid (Below W.heap.size W wr) := hw
      clear hw
      go_wp2_with fail
      go_ret
      exact ⟨rfl, HBW.out.trans (HW.out.mono HBW.out.size)⟩

set_option maxRecDepth 100000 in
set_option maxHeartbeats 1000000 in
theorem sameTypes_any (a b : Option Addr) (n c d : Nat) (T T' : Nat → LType) (w : World) (hA : TypesAt w a n T) (hB : TypesAt w b n T') (hs : ∀ i, i < n → (T' i).name = (T i).name ∧ (T' i).nf = (T i).nf ∧ ∀ j, j < (T i).nf → (T' i).F j = (T i).F j) :
    Calls Try.prog 29 #[.slice a n c, .slice b n d] w fun e w' => e = .returned (.bool true) ∧ Below w.heap.size w w' := by
  have hn : n ≤ 9223372036854775807 := hA.1
  have HA : Hid (TypesAt w a n T) := hA
  have HB : Hid (TypesAt w b n T') := hB
  have HS : Hid (∀ i, i < n → (T' i).name = (T i).name ∧ (T' i).nf = (T i).nf ∧ ∀ j, j < (T i).nf → (T' i).F j = (T i).F j) := hs
  clear hA hB hs
  go_enter Try.func29, Try.ntmps29
  go_wp2_with fail
  go_loopw [13] (fun i wr => ∃ k : Nat, k ≤ n ∧ i = .int .i64 k ∧ Below w.heap.size w wr) (fun i _ => n - (intOf i).toNat)
  case atStart => exact ⟨0, Nat.zero_le _, rfl, Below.refl _ _⟩
  case round =>
    obtain ⟨k, hk, rfl, hw⟩ := hrel
    by_cases hlt : k < n
    · obtain ⟨b1, o1, rfl, f0, f1, -, -, hF⟩ := (HA.out.kept hw).2 k hlt
      obtain ⟨b2, o2, rfl, g0, g1, -, -, hG⟩ := (HB.out.kept hw).2 k hlt
      obtain ⟨e1, e2, e3⟩ := HS.out k hlt
      rw [e1] at g0
      rw [e2] at g1 hG
      have hG' := hG.congr e3
      have hlt' : (k : Int) < (n : Int) := by omega
      have hk0 : (0 : Int) ≤ (k : Int) := by omega
      have cS : ∀ dd os, Calls Try.prog 32 #[.agg #[.string (T k).name, .slice (T k).fa (T k).nf (T k).fcap], .agg #[.string (T k).name, .slice (T' k).fa (T k).nf (T' k).fcap]] (grow (redrawn wr dd) os) fun e w'' => e = .returned (.bool true) ∧ ∃ p : Regrown, w'' = grow (redrawn wr p.d) p.os := fun dd os => Calls.regrown_of (sameType_any _ _ _ _ _ _ (T k).F _ (hF.kept (below_regrown wr dd os)) (hG'.kept (below_regrown wr dd os)))
      have r0 := cell_regrown f0
      have r1 := cell_regrown f1
      have r2 := cell_regrown g0
      have r3 := cell_regrown g1
      have HW : Hid (Below w.heap.size w wr) := hw
      clear hw hF hG hG' e1 e2 e3
      go_wp2_with fail
      refine wp_region_quiet_below (by kernel_rfl) (by kernel_rfl) ?_
      repeat (go_big_quiet_step (first | exact cS _ _))
      refine wpQuiet_nil ?_
      intro _ hw'
      obtain ⟨⟨dq, osq⟩, hw''⟩ := hw'
      subst hw''
      have HW2 : Hid (Below w.heap.size w (grow (redrawn wr dq) osq)) := HW.out.trans ((below_regrown wr dq osq).mono HW.out.size)
      clear cS r0 r1 r2 r3 f0 f1 g0 g1
      go_wp2_with fail
      go_roundw
      case rel => exact ⟨k + 1, by omega, by go_num, HW2.out⟩
      case measure => simp [intOf]; omega
    · have HW : Hid (Below w.heap.size w wr) := hw
      clear hw
      go_wp2_with fail
      go_ret
      exact ⟨rfl, HW.out⟩

set_option maxRecDepth 100000 in
set_option maxHeartbeats 1000000 in
theorem sameTexts_any (a b : Option Addr) (n c d : Nat) (K : Nat → ByteArray) (w : World) (hA : KeysAt w a n K) (hB : KeysAt w b n K) :
    Calls Try.prog 31 #[.slice a n c, .slice b n d] w fun e w' => e = .returned (.bool true) ∧ Below w.heap.size w w' := by
  have hn : n ≤ 9223372036854775807 := hA.1
  have HA : Hid (KeysAt w a n K) := hA
  have HB : Hid (KeysAt w b n K) := hB
  clear hA hB
  go_enter Try.func31, Try.ntmps31
  go_wp2_with fail
  go_loopw [13] (fun i wr => ∃ k : Nat, k ≤ n ∧ i = .int .i64 k ∧ Below w.heap.size w wr) (fun i _ => n - (intOf i).toNat)
  case atStart => exact ⟨0, Nat.zero_le _, rfl, Below.refl _ _⟩
  case round =>
    obtain ⟨k, hk, rfl, hw⟩ := hrel
    by_cases hlt : k < n
    · obtain ⟨b1, o1, rfl, f0, -⟩ := (HA.out.kept hw).2 k hlt
      obtain ⟨b2, o2, rfl, g0, -⟩ := (HB.out.kept hw).2 k hlt
      have hlt' : (k : Int) < (n : Int) := by omega
      have hk0 : (0 : Int) ≤ (k : Int) := by omega
      have HW : Hid (Below w.heap.size w wr) := hw
      clear hw
      go_wp2_with fail
      go_quiet (fail)
      go_wp2_with fail
      go_roundw
      case rel => exact ⟨k + 1, by omega, by go_num, HW.out.trans ((below_drewN wr _).mono HW.out.size)⟩
      case measure => simp [intOf]; omega
    · have HW : Hid (Below w.heap.size w wr) := hw
      clear hw
      go_wp2_with fail
      go_ret
      exact ⟨rfl, HW.out⟩
end Go.Proofs.Ytjbgkkgnebjmnaa
