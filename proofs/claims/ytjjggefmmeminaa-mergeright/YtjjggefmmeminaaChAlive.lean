import Derived.Test.YtjjggefmmeminaaChSee
import Derived.Test.YtjjggefmmeminaaAlive
/-
  The contract of stitchlaw2.alive: it answers true.
-/
namespace Go.Proofs.Ytjjggefmmeminaa
open Go.RowKit Go.Sort

set_option maxRecDepth 100000 in
set_option maxHeartbeats 400000 in
theorem user2_any (w : World) : Calls Try.prog 76 #[] w fun e w' => ∃ a fa, e = .returned (.slice a 1 1) ∧ TypesAt w' a 1 (userT fa) ∧ Below w.heap.size w w' := by
  go_enter Try.func76, Try.ntmps76
  go_wp2
  go_ret
  refine ⟨some ⟨w.heap.size + 1, 0, none⟩, some ⟨w.heap.size, 0, none⟩, rfl, ⟨by decide, ?_⟩, below2 _ _ _⟩
  intro i hi
  have h0 : i = 0 := by omega
  subst h0
  refine ⟨_, _, rfl, ?_, ?_, Nat.le_refl 2, small_of 4 rfl (by decide), ⟨show 2 ≤ maxLen by decide, ?_⟩⟩
  · rw [World.cell?_alloc_at _ _ _ _ (by simp)]; rfl
  · rw [World.cell?_alloc_at _ _ _ _ (by simp)]; rfl
  · intro j hj
    refine ⟨_, _, rfl, ?_⟩
    have hj' : j = 0 ∨ j = 1 := by have : j < 2 := hj; omega
    rcases hj' with rfl | rfl
    · refine ⟨?_, ?_, ?_, small_of 4 rfl (by decide), small_of 0 rfl (by decide), rfl⟩
      all_goals (rw [World.cell?_alloc_past _ _ _ (by simp), World.cell?_alloc_at _ _ _ _ rfl]; rfl)
    · refine ⟨?_, ?_, ?_, small_of 4 rfl (by decide), small_of 4 rfl (by decide), rfl⟩
      all_goals (rw [World.cell?_alloc_past _ _ _ (by simp), World.cell?_alloc_at _ _ _ _ rfl]; rfl)

def aliveC (i : Nat) : PChange := if i = 0 then ⟨1, ⟨#[117, 115, 101, 114]⟩, ⟨#[]⟩, ⟨#[109, 97, 110]⟩⟩ else ⟨3, ⟨#[109, 97, 110]⟩, ⟨#[110, 97, 109, 101]⟩, ⟨#[]⟩⟩
theorem alive_ok (fa : Option Addr) : seeF 1 (userT fa) 2 aliveC = (0, 0) := by kernel_rfl
theorem alive_own (fa : Option Addr) : (runS 1 (initS (userT fa)) aliveC 2 0).own = ⟨#[117, 115, 101, 114]⟩ := by kernel_rfl
theorem alive_nf (fa : Option Addr) : (runS 1 (initS (userT fa)) aliveC 2 0).nf = 1 := by kernel_rfl
theorem alive_O (fa : Option Addr) : (runS 1 (initS (userT fa)) aliveC 2 0).O 0 = ⟨#[98, 111, 115, 115]⟩ := by kernel_rfl
theorem alive_F (fa : Option Addr) : ((runS 1 (initS (userT fa)) aliveC 2 0).F 0).type = ⟨#[109, 97, 110]⟩ := by kernel_rfl

set_option maxRecDepth 100000 in
set_option maxHeartbeats 1000000 in
theorem alive2_any (w : World) : Calls Try.prog 33 #[] w fun e w' => e = .returned (.bool true) ∧ Below w.heap.size w w' := by
  go_enter Try.func33, Try.ntmps33
  go_wp2_with fail
  refine (user2_any w).mono ?_
  rintro e w1 ⟨a, fa, rfl, hT, hw1⟩
  go_wp2_with fail
  have hBc := below1 w1 (Obj.cells #[.int .i64 1, .string ⟨#[117, 115, 101, 114]⟩, .string ⟨#[]⟩, .string ⟨#[109, 97, 110]⟩, .int .i64 3, .string ⟨#[109, 97, 110]⟩, .string ⟨#[110, 97, 109, 101]⟩, .string ⟨#[]⟩] 61)
  have hCh : ChangesAt (w1.alloc (Obj.cells #[.int .i64 1, .string ⟨#[117, 115, 101, 114]⟩, .string ⟨#[]⟩, .string ⟨#[109, 97, 110]⟩, .int .i64 3, .string ⟨#[109, 97, 110]⟩, .string ⟨#[110, 97, 109, 101]⟩, .string ⟨#[]⟩] 61)) (some ⟨w1.heap.size, 0, none⟩) 2 aliveC := by
    refine ⟨show 2 ≤ maxLen by decide, fun i hi => ⟨_, _, rfl, ?_⟩⟩
    have hi' : i = 0 ∨ i = 1 := by omega
    rcases hi' with rfl | rfl
    · refine ⟨?_, ?_, ?_, ?_, small_of 4 rfl (by decide), small_of 0 rfl (by decide), small_of 3 rfl (by decide)⟩
      all_goals (rw [World.cell?_alloc_at _ _ _ _ rfl]; rfl)
    · refine ⟨?_, ?_, ?_, ?_, small_of 3 rfl (by decide), small_of 4 rfl (by decide), small_of 0 rfl (by decide)⟩
      all_goals (rw [World.cell?_alloc_at _ _ _ _ rfl]; rfl)
  have hcl := see_any a _ 1 1 2 2 (userT fa) aliveC _ (hT.kept hBc) hCh (Nat.le_refl 1)
  refine hcl.mono ?_
  rintro e w2 ⟨⟨v, rfl, -, hok⟩, hw2⟩
  have hB2 : Below w.heap.size w w2 := (hw1.trans (hBc.mono hw1.size)).trans (hw2.mono (hw1.trans (hBc.mono hw1.size)).size)
  obtain ⟨fv, ov, hS⟩ := hok (by rw [alive_ok])
  have hF0 : seeF 1 (userT fa) 2 aliveC = (0, 0) := alive_ok fa
  rw [hF0]
  obtain ⟨g, vc, rfl, -, -⟩ := hS.ptr (show 0 < 1 by decide)
  obtain ⟨k0, k1, k2, k3⟩ := hS.cells (show 0 < 1 by decide)
  have rf := hS.fields 0 (by decide)
  have ro := hS.owns 0 (by decide)
  rw [alive_nf] at rf ro
  rcases rf.shape with ⟨-, h0⟩ | ⟨fb, fc, hfv, -, -, -⟩
  · cases h0
  rcases ro.shape with ⟨-, h0⟩ | ⟨ob, oc, hov, -, -, -⟩
  · cases h0
  rw [hfv] at rf k1
  rw [hov] at ro k3
  have f2 := rf.cell (j := 2) (by decide)
  have o0 := ro.cell (j := 0) (by decide)
  rw [show (2 : Nat) = 0 * 3 + 2 from rfl, fieldCell2, alive_F] at f2
  unfold textCell at o0
  rw [alive_O] at o0
  rw [alive_own] at k2
  have HB : Hid (Below w.heap.size w w2) := hB2
  have l1 : g < w2.heap.size := block_lt_of_cell k1
  have l2 : fb < w2.heap.size := block_lt_of_cell f2
  have l3 : ob < w2.heap.size := block_lt_of_cell o0
  simp only [Nat.zero_mul, Nat.zero_add] at k0 k1 k2 k3 f2
  clear hcl hCh hT hw1 hBc hw2 hB2 hok hS rf ro hfv hov k0 hF0
  unfold faultV
  go_wp2_with fail
  go_ret
  exact ⟨rfl, HB.out.trans ((below1 w2 _).mono HB.out.size)⟩
end Go.Proofs.Ytjjggefmmeminaa
