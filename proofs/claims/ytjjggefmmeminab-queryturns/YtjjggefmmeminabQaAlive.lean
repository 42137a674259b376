/-
  A closed fact of chapter 4: a text, parsed and printed.
-/
import Derived.Test.YtjjggefmmeminabQpParse
import Derived.Test.YtjjggefmmeminabQtPrint
import Derived.Test.YtjjggefmmeminabQyCheckW
namespace Go.Proofs.Ytjjggefmmeminab
open Go.RowKit Go.Sort Go.PlainAid

def aliveS : ByteArray := ⟨#[117, 115, 101, 114, 40, 97, 110, 110, 41, 123, 110, 97, 109, 101, 32, 99, 104, 105, 101, 102, 58, 98, 111, 115, 115, 123, 110, 97, 109, 101, 125, 125]⟩
def aliveT : ByteArray := ⟨#[117, 115, 101, 114]⟩
def aliveK : ByteArray := ⟨#[97, 110, 110]⟩
def aliveL : List (Pick 8) := [mkPick ⟨#[]⟩ ⟨#[110, 97, 109, 101]⟩ [], mkPick ⟨#[99, 104, 105, 101, 102]⟩ ⟨#[98, 111, 115, 115]⟩ [mkPick ⟨#[]⟩ ⟨#[110, 97, 109, 101]⟩ []]]
set_option maxRecDepth 100000 in
theorem parse_alive : parse aliveS = .ok (aliveT, aliveK, aliveL) := by kernel_rfl
set_option maxRecDepth 100000 in
theorem print_alive : printA 8 aliveT aliveK aliveL = (aliveS, 0) := by kernel_rfl

set_option maxRecDepth 100000 in
set_option maxHeartbeats 2000000 in
theorem alive4_any (w : World) : Calls Try.prog 12 #[] w fun e w' => e = .returned (.bool true) ∧ Below w.heap.size w w' := by
  have hcl := parse_any aliveS w (by unfold Small maxLen; decide)
  go_enter Try.func12, Try.ntmps12
  go_wp2_with fail
  refine hcl.mono ?_
  clear hcl
  rintro e w1 ⟨hok, -, hw1⟩
  obtain ⟨a, cap, rfl, hc, hP⟩ : ∃ a cap, e = .returned (.tuple #[.agg #[.string aliveT, .string aliveK, .slice a 2 cap], .agg #[.int .i64 0, .int .i64 0]]) ∧ 2 ≤ cap ∧ PicksAt w1 8 a aliveL := hok _ parse_alive
  have HP := hidI hP
  have HB1 := hidI hw1
  clear hok hw1 hP
  obtain ⟨W, hW⟩ : ∃ W, W = (w1.alloc (Obj.cells #[.string aliveT, .string aliveK, .slice a 2 cap] 24)).alloc (Obj.cells #[.int .i64 0, .int .i64 0] 30) := ⟨_, rfl⟩
  have hBW : Below w1.heap.size w1 W := by rw [hW]; exact below2 _ _ _
  have hcl0 := print_any 8 aliveT aliveK a cap aliveL W (HP.out.kept hBW) hc (by unfold Small maxLen; decide) (by unfold Small maxLen; decide)
  rw [print_alive] at hcl0
  have hcl : Calls Try.prog 13 #[.agg #[.string aliveT, .string aliveK, .slice a 2 cap]] W fun e w' => e = .returned (.tuple #[.string aliveS, .int .i64 0]) ∧ Below W.heap.size W w' := hcl0
  have k0 : W.cell? ⟨w1.heap.size, 0, none⟩ = some (.string aliveT) := by
    rw [hW, World.cell?_alloc_past _ _ _ (by simp), World.cell?_alloc_at _ _ _ _ rfl]; rfl
  have k2 : W.cell? ⟨w1.heap.size, 2, none⟩ = some (.slice a 2 cap) := by
    rw [hW, World.cell?_alloc_past _ _ _ (by simp), World.cell?_alloc_at _ _ _ _ rfl]; rfl
  have f0 : W.cell? ⟨w1.heap.size + 1, 0, none⟩ = some (.int .i64 0) := by
    have hsz : (w1.alloc (Obj.cells #[.string aliveT, .string aliveK, .slice a 2 cap] 24)).heap.size = w1.heap.size + 1 := by simp
    rw [hW, ← hsz, World.cell?_alloc_at _ _ _ _ rfl]; rfl
  have HBW := hidI hBW
  clear hcl0 hBW
  rw [hW] at hcl
  go_wp2_with fail
  rw [← hW] at hcl
  rw [← hW]
  clear hW
  refine hcl.mono ?_
  clear hcl
  rintro e w2 ⟨rfl, hw2⟩
  have k2 := keptCell hw2 k2
  have f0 := keptCell hw2 f0
  have hB2 : Below w1.heap.size w1 w2 := HBW.out.trans (hw2.mono HBW.out.size)
  obtain ⟨b, o, A, C, ha, c0, c1, c2, -⟩ := (HP.out.kept hB2).2 1 (by decide)
  subst ha
  have HB2 : Hid (Below w.heap.size w w2) := HB1.out.trans (hB2.mono HB1.out.size)
  have d0 : w2.cell? ⟨b, o + 3, none⟩ = some (.string ⟨#[99, 104, 105, 101, 102]⟩) := c0
  have d1 : w2.cell? ⟨b, o + 3 + 1, none⟩ = some (.string ⟨#[98, 111, 115, 115]⟩) := c1
  have d2 : w2.cell? ⟨b, o + 3 + 2, none⟩ = some (.slice A 1 C) := c2
  have hcl : Calls Try.prog 30 #[.agg #[.string ⟨#[99, 104, 105, 101, 102]⟩, .string ⟨#[98, 111, 115, 115]⟩, .slice A 1 C]] w2 fun e w' => e = .returned (.string ⟨#[99, 104, 105, 101, 102]⟩) ∧ Below w2.heap.size w2 w' := qcalled_any ⟨#[99, 104, 105, 101, 102]⟩ ⟨#[98, 111, 115, 115]⟩ A 1 C w2
  clear hw2 hB2 c0 c1 c2 HBW HP
  unfold aliveS
  go_wp2_with fail
  refine hcl.mono ?_
  clear hcl
  rintro e w3 ⟨rfl, hw3⟩
  have HB3 : Hid (Below w.heap.size w w3) := HB2.out.trans (hw3.mono HB2.out.size)
  clear hw3
  go_wp2_with fail
  go_ret
  exact ⟨rfl, HB3.out⟩
end Go.Proofs.Ytjjggefmmeminab
