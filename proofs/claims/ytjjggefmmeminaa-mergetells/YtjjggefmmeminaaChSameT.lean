import Derived.Test.YtjjggefmmeminaaJCh
import Derived.Test.YtjjggefmmeminaaJPl
/-
  The contract of stitchref1.SameType where both are the same: true.
-/
namespace Go.Proofs.Ytjjggefmmeminaa
open Go.RowKit Go.Sort

theorem FieldsAt.congr {w : World} {a : Option Addr} {n : Nat} {F G : Nat → LField} (h : FieldsAt w a n F) (e : ∀ j, j < n → F j = G j) : FieldsAt w a n G :=
  ⟨h.1, fun i hi => by obtain ⟨b, o, ha, hf⟩ := h.2 i hi; exact ⟨b, o, ha, by rw [← e i hi]; exact hf⟩⟩

set_option maxRecDepth 100000 in
set_option maxHeartbeats 1000000 in
theorem sameType_any (name : ByteArray) (a b : Option Addr) (nf c d : Nat) (F : Nat → LField) (w : World) (hA : FieldsAt w a nf F) (hB : FieldsAt w b nf F) :
    Calls Try.prog 32 #[.agg #[.string name, .slice a nf c], .agg #[.string name, .slice b nf d]] w fun e w' => e = .returned (.bool true) ∧ Below w.heap.size w w' := by
  have hn : nf ≤ 9223372036854775807 := hA.1
  have HA : Hid (FieldsAt w a nf F) := hA
  have HB : Hid (FieldsAt w b nf F) := hB
  clear hA hB
  generalize hW : (w.alloc (Obj.cells #[.string name, .slice a nf c] 34)).alloc (Obj.cells #[.string name, .slice b nf d] 34) = W
  have hBW : Below w.heap.size w W := by rw [← hW]; exact below2 _ _ _
  have c0 : W.cell? ⟨w.heap.size, 0, none⟩ = some (.string name) := by rw [← hW, World.cell?_alloc_past _ _ _ (by simp), World.cell?_alloc_at _ _ _ _ rfl]; rfl
  have c1 : W.cell? ⟨w.heap.size, 1, none⟩ = some (.slice a nf c) := by rw [← hW, World.cell?_alloc_past _ _ _ (by simp), World.cell?_alloc_at _ _ _ _ rfl]; rfl
  have d0 : W.cell? ⟨w.heap.size + 1, 0, none⟩ = some (.string name) := by rw [← hW, World.cell?_alloc_at _ _ _ _ (by simp)]; rfl
  have d1 : W.cell? ⟨w.heap.size + 1, 1, none⟩ = some (.slice b nf d) := by rw [← hW, World.cell?_alloc_at _ _ _ _ (by simp)]; rfl
  have HBW : Hid (Below w.heap.size w W) := hBW
  clear hBW
  go_enter Try.func32, Try.ntmps32
  go_wp2_with fail
  clear hW
  go_loopw [23] (fun i wr => ∃ k : Nat, k ≤ nf ∧ i = .int .i64 k ∧ Below W.heap.size W wr) (fun i _ => nf - (intOf i).toNat)
  case atStart => exact ⟨0, Nat.zero_le _, rfl, Below.refl _ _⟩
  case round =>
    obtain ⟨k, hk, rfl, hw⟩ := hrel
    by_cases hlt : k < nf
    · obtain ⟨b1, o1, rfl, f0, f1, f2, -⟩ := ((HA.out.kept HBW.out).kept hw).2 k hlt
      obtain ⟨b2, o2, rfl, g0, g1, g2, -⟩ := ((HB.out.kept HBW.out).kept hw).2 k hlt
      have hlt' : (k : Int) < (nf : Int) := by omega
      have hk0 : (0 : Int) ≤ (k : Int) := by omega
      have m1 := keptCell hw c1
      have n1 := keptCell hw d1
      have HW : Hid (Below W.heap.size W wr) := hw
      clear hw
      go_wp2_with fail
      go_quiet (fail)
      go_wp2_with fail
      go_roundw
      case rel => exact ⟨k + 1, by omega, by go_num, HW.out.trans ((below_drewN wr _).mono HW.out.size)⟩
      case measure => simp [intOf]; omega
    · have HW : Hid (Below W.heap.size W wr) := hw
      clear hw
      go_wp2_with fail
      go_ret
      exact ⟨rfl, HBW.out.trans (HW.out.mono HBW.out.size)⟩
end Go.Proofs.Ytjjggefmmeminaa
