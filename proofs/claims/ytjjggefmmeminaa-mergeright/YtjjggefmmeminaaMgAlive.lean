import Derived.Test.YtjjggefmmeminaaMgFindF
import Derived.Test.YtjjggefmmeminaaMgAll
import Derived.Test.YtjjggefmmeminaaAlive
/-
  The contract of stitchlaw3.alive: it answers true.
-/
namespace Go.Proofs.Ytjjggefmmeminaa
open Go.RowKit Go.Sort Go.PlainAid

def oneS (ta fa : Option Addr) (name field : ByteArray) : LServ := ⟨ta, 1, 1, fun _ => ⟨name, fa, 1, 1, fun _ => ⟨field, 1, ⟨#[]⟩⟩⟩, none, 0, 0, fun _ => ⟨0, ⟨#[]⟩, ⟨#[]⟩, ⟨#[]⟩⟩, none, 0, 0, fun _ => ⟨⟨#[]⟩, ⟨#[]⟩, none, 0, 0, fun _ => ⟨⟨#[]⟩, ⟨#[]⟩, none, 0, 0, fun _ => ⟨#[]⟩⟩⟩⟩

set_option maxRecDepth 100000 in
set_option maxHeartbeats 400000 in
theorem one_any (name field : ByteArray) (w : World) (hn : Small name) (hf : Small field) : Calls Try.prog 84 #[.string name, .string field] w fun e w' => ∃ ta fa, e = .returned (servV (oneS ta fa name field)) ∧ ServOk w' (oneS ta fa name field) ∧ Below w.heap.size w w' := by
  go_enter Try.func84, Try.ntmps84
  go_wp2
  generalize hD : ((w.alloc (Obj.cells #[.slice (some ⟨w.heap.size + 1 + 1, 0, none⟩) 1 1, .slice none 0 0, .slice none 0 0] 83)).alloc (Obj.cells #[.string field, .int .i64 1, .string ⟨#[]⟩] 79)).alloc (Obj.cells #[.string name, .slice (some ⟨w.heap.size + 1, 0, none⟩) 1 1] 34) = D
  have hB : Below w.heap.size w D := by rw [← hD]; exact (below2 _ _ _).trans ((below1 _ _).mono (below2 _ _ _).size)
  have h0 : D.heap[w.heap.size]? = some (.cells #[.slice (some ⟨w.heap.size + 1 + 1, 0, none⟩) 1 1, .slice none 0 0, .slice none 0 0] 83 (0, 0)) := by
    rw [← hD, Below.heap_alloc _ _ _ (by simp; omega), Below.heap_alloc _ _ _ (by simp)]; exact heap_alloc_new _ _
  have h1 : D.heap[w.heap.size + 1]? = some (.cells #[.string field, .int .i64 1, .string ⟨#[]⟩] 79 (0, 0)) := by
    rw [← hD, Below.heap_alloc _ _ _ (by simp)]
    have e : w.heap.size + 1 = (w.alloc (Obj.cells #[.slice (some ⟨w.heap.size + 1 + 1, 0, none⟩) 1 1, .slice none 0 0, .slice none 0 0] 83)).heap.size := by simp
    exact (congrArg (fun q => _) e).trans (heap_alloc_new _ _)
  have h2 : D.heap[w.heap.size + 1 + 1]? = some (.cells #[.string name, .slice (some ⟨w.heap.size + 1, 0, none⟩) 1 1] 34 (0, 0)) := by
    rw [← hD]
    have e : w.heap.size + 1 + 1 = ((w.alloc (Obj.cells #[.slice (some ⟨w.heap.size + 1 + 1, 0, none⟩) 1 1, .slice none 0 0, .slice none 0 0] 83)).alloc (Obj.cells #[.string field, .int .i64 1, .string ⟨#[]⟩] 79)).heap.size := by simp
    exact (congrArg (fun q => _) e).trans (heap_alloc_new _ _)
  have c0 : D.cell? ⟨w.heap.size, 0, none⟩ = some (.slice (some ⟨w.heap.size + 1 + 1, 0, none⟩) 1 1) := by simp [World.cell?, h0]
  have c1 : D.cell? ⟨w.heap.size, 1, none⟩ = some (.slice none 0 0) := by simp [World.cell?, h0]
  have c2 : D.cell? ⟨w.heap.size, 2, none⟩ = some (.slice none 0 0) := by simp [World.cell?, h0]
  refine bodyPost_ret (v := servV (oneS (some ⟨w.heap.size + 1 + 1, 0, none⟩) (some ⟨w.heap.size + 1, 0, none⟩) name field)) (by unfold servV oneS; simp [results, Try.results84, go_sem, c0, c1, c2]) rfl ⟨_, _, rfl, ⟨⟨(show 1 ≤ maxLen by decide), fun i hi => ?_⟩, ⟨Nat.zero_le _, fun i hi => absurd hi (Nat.not_lt_zero _)⟩, ⟨Nat.zero_le _, fun i hi => absurd hi (Nat.not_lt_zero _)⟩, Nat.le_refl _, Nat.le_refl _⟩, hB⟩
  have hi0 : i = 0 := by have : i < 1 := hi; omega
  subst hi0
  refine ⟨_, _, rfl, by simp [World.cell?, h2, oneS], by simp [World.cell?, h2, oneS], Nat.le_refl 1, hn, ⟨show 1 ≤ maxLen by decide, fun j hj => ?_⟩⟩
  have hj0 : j = 0 := by have : j < 1 := hj; omega
  subst hj0
  exact ⟨_, _, rfl, by simp [World.cell?, h1, oneS], by simp [World.cell?, h1, oneS], by simp [World.cell?, h1, oneS], hf, Nat.zero_le _, rfl⟩

def aliveV (ta fa tb fb : Option Addr) (n2 : ByteArray) (i : Nat) : LServ := if i = 0 then oneS ta fa ⟨#[117, 115, 101, 114]⟩ ⟨#[110, 97, 109, 101]⟩ else oneS tb fb ⟨#[117, 115, 101, 114]⟩ n2
theorem aliveF1 (ta fa tb fb : Option Addr) : allF 2 (aliveV ta fa tb fb ⟨#[109, 97, 105, 108]⟩) = (0, 0) := by kernel_rfl
theorem aliveF2 (ta fa tb fb : Option Addr) : allF 2 (aliveV ta fa tb fb ⟨#[110, 97, 109, 101]⟩) = (6, 1) := by kernel_rfl
def aliveL : List PPart := [⟨⟨#[117, 115, 101, 114]⟩, [⟨⟨#[110, 97, 109, 101]⟩, 1, ⟨#[]⟩⟩, ⟨⟨#[109, 97, 105, 108]⟩, 1, ⟨#[]⟩⟩], [⟨0, ⟨#[117, 115, 101, 114]⟩, ⟨#[110, 97, 109, 101]⟩⟩, ⟨1, ⟨#[117, 115, 101, 114]⟩, ⟨#[109, 97, 105, 108]⟩⟩], [⟨0, ⟨#[117, 115, 101, 114]⟩, ⟨#[]⟩⟩, ⟨1, ⟨#[117, 115, 101, 114]⟩, ⟨#[]⟩⟩]⟩]
theorem aliveP (ta fa tb fb : Option Addr) : allP (ntS (aliveV ta fa tb fb ⟨#[109, 97, 105, 108]⟩)) (seenA (aliveV ta fa tb fb ⟨#[109, 97, 105, 108]⟩)) 2 = aliveL := by kernel_rfl
theorem aliveM : mfind aliveL ⟨#[117, 115, 101, 114]⟩ = 0 := by kernel_rfl
theorem alive_at {w : World} {ta fa tb fb : Option Addr} {n2 : ByteArray} (h1 : ServOk w (oneS ta fa ⟨#[117, 115, 101, 114]⟩ ⟨#[110, 97, 109, 101]⟩)) (h2 : ServOk w (oneS tb fb ⟨#[117, 115, 101, 114]⟩ n2)) : ServsAt (w.alloc (Obj.cells #[.slice ta 1 1, .slice none 0 0, .slice none 0 0, .slice tb 1 1, .slice none 0 0, .slice none 0 0] 83)) (some ⟨w.heap.size, 0, none⟩) 2 (aliveV ta fa tb fb n2) := by
  have hB := below1 w (Obj.cells #[.slice ta 1 1, .slice none 0 0, .slice none 0 0, .slice tb 1 1, .slice none 0 0, .slice none 0 0] 83)
  refine ⟨show 2 ≤ maxLen by decide, fun i hi => ⟨_, _, rfl, ?_⟩⟩
  have hi' : i = 0 ∨ i = 1 := by omega
  rcases hi' with rfl | rfl
  · refine ⟨?_, ?_, ?_, h1.kept hB⟩
    all_goals (rw [World.cell?_alloc_at _ _ _ _ rfl]; rfl)
  · refine ⟨?_, ?_, ?_, h2.kept hB⟩
    all_goals (rw [World.cell?_alloc_at _ _ _ _ rfl]; rfl)

set_option maxRecDepth 100000 in
set_option maxHeartbeats 1000000 in
theorem alive3_any (w : World) : Calls Try.prog 41 #[] w fun e w' => e = .returned (.bool true) ∧ Below w.heap.size w w' := by
  go_enter Try.func41, Try.ntmps41
  go_wp2_with fail
  refine (one_any _ _ w (small_of 4 rfl (by decide)) (small_of 4 rfl (by decide))).mono ?_
  rintro e w1 ⟨ta, fa, rfl, hs1, hw1⟩
  go_wp2_with fail
  refine (one_any _ _ w1 (small_of 4 rfl (by decide)) (small_of 4 rfl (by decide))).mono ?_
  rintro e w2 ⟨tb, fb, rfl, hs2, hw2⟩
  have hA := alive_at (hs1.kept hw2) hs2
  have hB3 := (hw1.trans (hw2.mono hw1.size)).trans ((below1 w2 (Obj.cells #[.slice ta 1 1, .slice none 0 0, .slice none 0 0, .slice tb 1 1, .slice none 0 0, .slice none 0 0] 83)).mono (hw1.trans (hw2.mono hw1.size)).size)
  have hcl := mall_any _ 2 2 _ _ hA
  rw [aliveF1] at hcl
  have HB3 := Hid.intro hB3
  clear hs1 hw1 hs2 hw2 hA hB3
  unfold servV oneS
  go_wp2_with fail
  refine hcl.mono ?_
  clear hcl
  rintro e w3 ⟨⟨va, vn, vc, rfl, -, hP⟩, hw3⟩
  obtain ⟨rv, hP⟩ := hP (by first | exact trivial | rfl)
  rw [aliveP] at hP
  have hB4 := HB3.out.trans (hw3.mono HB3.out.size)
  have hB5 := hB4.trans ((below1 w3 (Obj.cells #[.int .i64 0, .int .i64 0] 30)).mono hB4.size)
  have hP5 := hP.kept' (below1 w3 (Obj.cells #[.int .i64 0, .int .i64 0] 30))
  have hbx : (w3.alloc (Obj.cells #[.int .i64 0, .int .i64 0] 30)).heap[w3.heap.size]? = some (.cells #[.int .i64 0, .int .i64 0] 30 (0, 0)) := heap_alloc_new _ _
  have hone := one_any ⟨#[117, 115, 101, 114]⟩ ⟨#[110, 97, 109, 101]⟩ (w3.alloc (Obj.cells #[.int .i64 0, .int .i64 0] 30)) (small_of 4 rfl (by decide)) (small_of 4 rfl (by decide))
  clear hP hB4 hw3 HB3
  unfold faultV
  go_wp2_with fail
  generalize w3.alloc (Obj.cells #[.int .i64 0, .int .i64 0] 30) = w4 at *
  refine hone.mono ?_
  clear hone
  rintro e w5 ⟨tc, fc, rfl, hs5, hw5⟩
  go_wp2_with fail
  refine (one_any _ _ w5 (small_of 4 rfl (by decide)) (small_of 4 rfl (by decide))).mono ?_
  rintro e w6 ⟨td, fd, rfl, hs6, hw6⟩
  have hA := alive_at (hs5.kept hw6) hs6
  have h46 := (hw5.trans (hw6.mono hw5.size)).trans ((below1 w6 (Obj.cells #[.slice tc 1 1, .slice none 0 0, .slice none 0 0, .slice td 1 1, .slice none 0 0, .slice none 0 0] 83)).mono (hw5.trans (hw6.mono hw5.size)).size)
  have hcl := mall_any _ 2 2 _ _ hA
  rw [aliveF2] at hcl
  have H46 := Hid.intro h46
  clear hs5 hw5 hs6 hw6 hA h46
  unfold servV oneS
  go_wp2_with fail
  refine hcl.mono ?_
  clear hcl
  rintro e w7 ⟨⟨xa, xn, xc, rfl, -, -⟩, hw7⟩
  have h47 := H46.out.trans (hw7.mono H46.out.size)
  have h48 := h47.trans ((below1 w7 (Obj.cells #[.int .i64 6, .int .i64 1] 30)).mono h47.size)
  have hP8 := hP5.kept' h48
  have hbx8 := (h48.block _ (lt_of_block hbx)).trans hbx
  have hB8 := hB5.trans (h48.mono hB5.size)
  obtain ⟨hvl⟩ : vn = 1 := hP8.shape
  obtain ⟨g, cap', a1, d1, a2, d2, a3, d3, hv, e1, e2, e3, k0, k1, k2, k3⟩ := hP8.aggs (i := 0) (by decide)
  cases hv
  have R1 := hP8.rows 1 0 (by decide) (by decide)
  rw [e2] at R1
  rcases R1.shape with ⟨-, h0⟩ | ⟨gb, gc, hgv, -, -, -⟩
  · cases h0
  cases hgv
  have o3 := R1.cell (j := 3) (by decide)
  have hf := mfind_any _ _ aliveL rv ⟨#[117, 115, 101, 114]⟩ _ hP8
  rw [aliveM] at hf
  have f0 : (w7.alloc (Obj.cells #[.int .i64 6, .int .i64 1] 30)).cell? ⟨w3.heap.size, 0, none⟩ = some (.int .i64 0) := by simp [World.cell?, hbx8]
  have g0 : (w7.alloc (Obj.cells #[.int .i64 6, .int .i64 1] 30)).cell? ⟨w7.heap.size, 0, none⟩ = some (.int .i64 6) := by rw [World.cell?_alloc_at _ _ _ _ rfl]; rfl
  have g1 : (w7.alloc (Obj.cells #[.int .i64 6, .int .i64 1] 30)).cell? ⟨w7.heap.size, 1, none⟩ = some (.int .i64 1) := by rw [World.cell?_alloc_at _ _ _ _ rfl]; rfl
  have HB8 := Hid.intro hB8
  have o3' : (w7.alloc (Obj.cells #[.int .i64 6, .int .i64 1] 30)).cell? ⟨gb, 3, none⟩ = some (.int .i64 1) := o3
  simp only [Nat.zero_mul, Nat.zero_add] at k0 k1 k2 k3
  have k1' : (w7.alloc (Obj.cells #[.int .i64 6, .int .i64 1] 30)).cell? ⟨g, 1, none⟩ = some (.slice a1 2 d1) := k1
  have k2' : (w7.alloc (Obj.cells #[.int .i64 6, .int .i64 1] 30)).cell? ⟨g, 2, none⟩ = some (.slice (some ⟨gb, 0, none⟩) 2 d2) := k2
  have k3' : (w7.alloc (Obj.cells #[.int .i64 6, .int .i64 1] 30)).cell? ⟨g, 3, none⟩ = some (.slice a3 2 d3) := k3
  clear hP8 hbx8 hP5 hbx h47 h48 hw7 H46 hB8 hB5 R1 o3 k0 k1 k2 k3 e1 e2 e3
  unfold faultV
  go_wp2_with fail
  refine hf.mono ?_
  clear hf
  rintro e w9 ⟨rfl, hw9⟩
  have HB9 := Hid.intro (HB8.out.trans (hw9.mono HB8.out.size))
  clear hw9 f0 g0 g1 o3' k1' k2' k3'
  go_wp2_with fail
  go_ret
  exact ⟨rfl, HB9.out⟩
end Go.Proofs.Ytjjggefmmeminaa
