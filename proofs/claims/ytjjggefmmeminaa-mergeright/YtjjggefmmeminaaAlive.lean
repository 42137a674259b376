import Derived.Test.YtjjggefmmeminaaJWr
/-
  The contract of stitchlaw1.alive: it answers true.
-/
namespace Go.Proofs.Ytjjggefmmeminaa
open Go.RowKit Go.Sort Go.PlainAid

def userF (i : Nat) : LField := if i = 0 then ⟨⟨#[110, 97, 109, 101]⟩, 1, ⟨#[]⟩⟩ else ⟨⟨#[98, 111, 115, 115]⟩, 2, ⟨#[117, 115, 101, 114]⟩⟩
def userT (fa : Option Addr) (_ : Nat) : LType := ⟨⟨#[117, 115, 101, 114]⟩, fa, 2, 2, userF⟩

theorem small_of {s : ByteArray} (k : Nat) (h : s.size = k) (hk : k ≤ 100) : Small s := by unfold Small maxLen; omega

set_option maxHeartbeats 400000 in
theorem user_any (w : World) : Calls Try.prog 70 #[] w fun e w' => ∃ a fa, e = .returned (.slice a 1 1) ∧ TypesAt w' a 1 (userT fa) ∧ Below w.heap.size w w' := by
  go_enter Try.func70, Try.ntmps70
  go_wp2
  go_ret
  refine ⟨some ⟨w.heap.size + 1, 0, none⟩, some ⟨w.heap.size, 0, none⟩, rfl, ⟨by decide, ?_⟩, below2 _ _ _⟩
  intro i hi
  have h0 : i = 0 := by omega
  subst h0
  refine ⟨_, _, rfl, ?_, ?_, Nat.le_refl 2, small_of 4 rfl (by decide), ⟨show 2 ≤ maxLen by decide, ?_⟩⟩
  · rw [World.cell?_alloc_at _ _ _ _ (by simp)]; rfl
  · rw [World.cell?_alloc_at _ _ _ _ (by simp)]; rfl
  · intro j hj
    refine ⟨_, _, rfl, ?_⟩
    have hj' : j = 0 ∨ j = 1 := by have : j < 2 := hj; omega
    rcases hj' with rfl | rfl
    · refine ⟨?_, ?_, ?_, small_of 4 rfl (by decide), small_of 0 rfl (by decide), rfl⟩
      all_goals (rw [World.cell?_alloc_past _ _ _ (by simp), World.cell?_alloc_at _ _ _ _ rfl]; rfl)
    · refine ⟨?_, ?_, ?_, small_of 4 rfl (by decide), small_of 4 rfl (by decide), rfl⟩
      all_goals (rw [World.cell?_alloc_past _ _ _ (by simp), World.cell?_alloc_at _ _ _ _ rfl]; rfl)

theorem user_wrong (fa : Option Addr) : wrongS 1 (userT fa) = (0, 0) := by kernel_rfl
theorem user_find (fa : Option Addr) : find 1 (userT fa) ⟨#[117, 115, 101, 114]⟩ = 0 := by kernel_rfl
theorem user_field : fieldIdx 2 userF ⟨#[98, 111, 115, 115]⟩ = 1 := by kernel_rfl
theorem named_a1 : named ⟨#[97, 49]⟩ = true := by kernel_rfl
theorem named_A : named ⟨#[65]⟩ = false := by kernel_rfl
def annV (i : Nat) : LVal := if i = 0 then ⟨⟨#[110, 97, 109, 101]⟩, ⟨#[65, 110, 110]⟩, none, 0, 0, fun _ => ⟨#[]⟩⟩ else ⟨⟨#[98, 111, 115, 115]⟩, ⟨#[]⟩, none, 0, 0, fun _ => ⟨#[]⟩⟩
def annX (va : Option Addr) (_ : Nat) : LThing := ⟨⟨#[117, 115, 101, 114]⟩, ⟨#[97, 110, 110]⟩, va, 2, 2, annV⟩
theorem ann_right (fa va : Option Addr) : wrongThings 1 (userT fa) 1 (annX va) = (0, 0) := by kernel_rfl

set_option maxHeartbeats 400000 in
theorem alive_any (w : World) : Calls Try.prog 25 #[] w fun e w' => e = .returned (.bool true) ∧ Below w.heap.size w w' := by
  have hfd := field0_run
  go_enter Try.func25, Try.ntmps25
  go_wp2_with fail
  generalize hW : ((w.alloc (Obj.cells #[Value.string ⟨#[110, 97, 109, 101]⟩, Value.string ⟨#[65, 110, 110]⟩, Value.slice none 0 0, Value.string ⟨#[98, 111, 115, 115]⟩, Value.string ⟨#[]⟩, Value.slice none 0 0] 118)).alloc
      (Obj.cells #[Value.string ⟨#[117, 115, 101, 114]⟩, Value.string ⟨#[97, 110, 110]⟩, Value.slice (some ⟨w.heap.size, 0, none⟩) 2 2] 113)) = W
  have hB : Below w.heap.size w W := by rw [← hW]; exact below2 _ _ _
  have hX : ThingsAt W (some ⟨w.heap.size + 1, 0, none⟩) 1 (annX (some ⟨w.heap.size, 0, none⟩)) := by
    rw [← hW]
    refine ⟨show 1 ≤ maxLen by decide, ?_⟩
    intro i hi
    have h0 : i = 0 := by omega
    subst h0
    refine ⟨_, _, rfl, ?_, ?_, ?_, Nat.le_refl 2, small_of 4 rfl (by decide), small_of 3 rfl (by decide), ⟨show 2 ≤ maxLen by decide, ?_⟩⟩
    · rw [World.cell?_alloc_at _ _ _ _ (by simp)]; rfl
    · rw [World.cell?_alloc_at _ _ _ _ (by simp)]; rfl
    · rw [World.cell?_alloc_at _ _ _ _ (by simp)]; rfl
    · intro j hj
      refine ⟨_, _, rfl, ?_⟩
      have hj' : j = 0 ∨ j = 1 := by have : j < 2 := hj; omega
      rcases hj' with rfl | rfl
      · refine ⟨?_, ?_, ?_, Nat.le_refl 0, small_of 4 rfl (by decide), small_of 3 rfl (by decide), ⟨show 0 ≤ maxLen by decide, fun k hk => absurd hk (Nat.not_lt_zero _)⟩⟩
        all_goals (rw [World.cell?_alloc_past _ _ _ (by simp), World.cell?_alloc_at _ _ _ _ rfl]; rfl)
      · refine ⟨?_, ?_, ?_, Nat.le_refl 0, small_of 4 rfl (by decide), small_of 0 rfl (by decide), ⟨show 0 ≤ maxLen by decide, fun k hk => absurd hk (Nat.not_lt_zero _)⟩⟩
        all_goals (rw [World.cell?_alloc_past _ _ _ (by simp), World.cell?_alloc_at _ _ _ _ rfl]; rfl)
  clear hW
  have HX : Hid (ThingsAt W (some ⟨w.heap.size + 1, 0, none⟩) 1 (annX (some ⟨w.heap.size, 0, none⟩))) := hX
  clear hX
  refine (user_any W).mono ?_
  rintro e w1 ⟨a, fa, rfl, hT, hw1⟩
  have hB1 := hB.trans (hw1.mono hB.size)
  have hc1 := wrong_any a 1 1 (userT fa) w1 hT (Nat.le_refl 1)
  rw [user_wrong] at hc1
  clear hT
  go_wp2_with fail
  refine hc1.mono ?_
  clear hc1
  rintro e w2 ⟨rfl, hw2⟩
  have hB2 := hB1.trans (hw2.mono hB1.size)
  have HX2 : Hid (ThingsAt w2 (some ⟨w.heap.size + 1, 0, none⟩) 1 (annX (some ⟨w.heap.size, 0, none⟩))) := (HX.out.kept hw1).kept hw2
  clear hw2 hw1 hB1
  unfold faultV
  go_wp2_with fail
  refine (user_any w2).mono ?_
  rintro e w3 ⟨a3, fa3, rfl, hT, hw3⟩
  have hB3 := hB2.trans (hw3.mono hB2.size)
  have hc3 := things_any a3 (some ⟨w.heap.size + 1, 0, none⟩) 1 1 1 1 (userT fa3) _ w3 hT (HX2.out.kept hw3) (Nat.le_refl 1)
  rw [ann_right] at hc3
  clear hT hw3 HX HX2 hB2
  go_wp2_with fail
  refine hc3.mono ?_
  clear hc3
  rintro e w4 ⟨rfl, hw4⟩
  have hB4 := hB3.trans (hw4.mono hB3.size)
  clear hw4 hB3
  unfold faultV
  go_wp2_with fail
  refine (user_any w4).mono ?_
  rintro e w5 ⟨a5, fa5, rfl, hT, hw5⟩
  have hB5 := hB4.trans (hw5.mono hB4.size)
  have hc5 := find_any a5 1 1 (userT fa5) ⟨#[117, 115, 101, 114]⟩ w5 hT
  rw [user_find] at hc5
  clear hT hw5 hB4
  go_wp2_with fail
  refine hc5.mono ?_
  clear hc5
  rintro e w6 ⟨rfl, hw6⟩
  have hB6 := hB5.trans (hw6.mono hB5.size)
  clear hw6 hB5
  go_wp2_with fail
  refine (user_any w6).mono ?_
  rintro e w7 ⟨a7, fa7, rfl, hT, hw7⟩
  have hB7 := hB6.trans (hw7.mono hB6.size)
  obtain ⟨b7, o7, rfl, -, hcell, -, -, hF⟩ := hT.2 0 (by decide)
  have hc7 := field_any fa7 2 2 userF ⟨#[98, 111, 115, 115]⟩ w7 hF
  rw [user_field] at hc7
  have hcell' : w7.cell? ⟨b7, o7 + 1, none⟩ = some (.slice fa7 2 2) := by simpa [userT] using hcell
  clear hT hw7 hF hcell hB6
  go_wp2_with fail
  refine hc7.mono ?_
  clear hc7
  rintro e w8 ⟨rfl, hw8⟩
  have hB8 := hB7.trans (hw8.mono hB7.size)
  clear hw8 hcell' hB7
  have hc8 := named_any ⟨#[97, 49]⟩ w8 (small_of 2 rfl (by decide))
  rw [named_a1] at hc8
  go_wp2_with fail
  refine hc8.mono ?_
  clear hc8
  rintro e w9 ⟨rfl, hw9⟩
  have hB9 := hB8.trans (hw9.mono hB8.size)
  clear hw9 hB8
  have hc9 := named_any ⟨#[65]⟩ w9 (small_of 1 rfl (by decide))
  rw [named_A] at hc9
  go_wp2_with fail
  refine hc9.mono ?_
  clear hc9
  rintro e w10 ⟨rfl, hw10⟩
  have hB10 := hB9.trans (hw10.mono hB9.size)
  go_wp2_with fail
  go_ret
  exact ⟨rfl, hB10⟩
end Go.Proofs.Ytjjggefmmeminaa
