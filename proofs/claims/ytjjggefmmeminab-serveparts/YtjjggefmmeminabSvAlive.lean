/-
  The contract of stitchlaw5.alive: it answers true.
-/
import Derived.Test.YtjjggefmmeminabSvSame
namespace Go.Proofs.Ytjjggefmmeminab
open Go.RowKit Go.Sort

def svcOne (h : Nat) : SServ := ⟨some ⟨h + 1, 0, none⟩, 1, 1, fun _ => ⟨⟨#[117, 115, 101, 114]⟩, some ⟨h, 0, none⟩, 1, 1, fun _ => ⟨⟨#[110, 97, 109, 101]⟩, 1, ⟨#[]⟩⟩⟩, none, 0, 0, some ⟨h + 3, 0, none⟩, 1, 1, fun _ => ⟨⟨#[117, 115, 101, 114]⟩, ⟨#[97, 110, 110]⟩, some ⟨h + 2, 0, none⟩, 1, 1, fun _ => ⟨⟨#[110, 97, 109, 101]⟩, ⟨#[65, 110, 110]⟩, none, 0, 0, fun _ => ⟨#[]⟩⟩⟩⟩
theorem small5 (s : ByteArray) (n : Nat) (h : s.size = n) (hn : n ≤ 1000) : Small s := by unfold Small maxLen; omega

theorem five (w : World) (o0 o1 o2 o3 o4 : Obj) : (((((w.alloc o0).alloc o1).alloc o2).alloc o3).alloc o4).heap[w.heap.size]? = some o0 ∧ (((((w.alloc o0).alloc o1).alloc o2).alloc o3).alloc o4).heap[w.heap.size + 1]? = some o1 ∧ (((((w.alloc o0).alloc o1).alloc o2).alloc o3).alloc o4).heap[w.heap.size + 2]? = some o2 ∧ (((((w.alloc o0).alloc o1).alloc o2).alloc o3).alloc o4).heap[w.heap.size + 3]? = some o3 ∧ (((((w.alloc o0).alloc o1).alloc o2).alloc o3).alloc o4).heap[w.heap.size + 4]? = some o4 := by
  have n0 : (w.alloc o0).heap[w.heap.size]? = some o0 := heap_alloc_new _ _
  have n1 : ((w.alloc o0).alloc o1).heap[w.heap.size + 1]? = some o1 := (show (w.alloc o0).heap.size = w.heap.size + 1 by simp) ▸ heap_alloc_new (w.alloc o0) o1
  have n2 : (((w.alloc o0).alloc o1).alloc o2).heap[w.heap.size + 2]? = some o2 := (show ((w.alloc o0).alloc o1).heap.size = w.heap.size + 2 by simp) ▸ heap_alloc_new ((w.alloc o0).alloc o1) o2
  have n3 : ((((w.alloc o0).alloc o1).alloc o2).alloc o3).heap[w.heap.size + 3]? = some o3 := (show (((w.alloc o0).alloc o1).alloc o2).heap.size = w.heap.size + 3 by simp) ▸ heap_alloc_new (((w.alloc o0).alloc o1).alloc o2) o3
  have n4 : (((((w.alloc o0).alloc o1).alloc o2).alloc o3).alloc o4).heap[w.heap.size + 4]? = some o4 := (show ((((w.alloc o0).alloc o1).alloc o2).alloc o3).heap.size = w.heap.size + 4 by simp) ▸ heap_alloc_new ((((w.alloc o0).alloc o1).alloc o2).alloc o3) o4
  refine ⟨?_, ?_, ?_, ?_, n4⟩
  · have m1 := (heap_alloc_old _ o1 (lt_of_block n0)).trans n0
    have m2 := (heap_alloc_old _ o2 (lt_of_block m1)).trans m1
    have m3 := (heap_alloc_old _ o3 (lt_of_block m2)).trans m2
    exact (heap_alloc_old _ o4 (lt_of_block m3)).trans m3
  · have m2 := (heap_alloc_old _ o2 (lt_of_block n1)).trans n1
    have m3 := (heap_alloc_old _ o3 (lt_of_block m2)).trans m2
    exact (heap_alloc_old _ o4 (lt_of_block m3)).trans m3
  · have m3 := (heap_alloc_old _ o3 (lt_of_block n2)).trans n2
    exact (heap_alloc_old _ o4 (lt_of_block m3)).trans m3
  · exact (heap_alloc_old _ o4 (lt_of_block n3)).trans n3
theorem five_below (w : World) (o0 o1 o2 o3 o4 : Obj) : Below w.heap.size w (((((w.alloc o0).alloc o1).alloc o2).alloc o3).alloc o4) :=
  ((((((Below.refl _ _).alloc (Nat.le_refl _) o0).alloc (by simp) o1).alloc (by simp; omega) o2).alloc (by simp; omega) o3).alloc (by simp; omega) o4)

set_option maxRecDepth 100000 in
set_option maxHeartbeats 1000000 in
theorem one5_any (w : World) : Calls Try.prog 48 #[] w fun e w' => e = .returned (.slice (some ⟨w.heap.size + 4, 0, none⟩) 1 1) ∧ SServsAt w' (some ⟨w.heap.size + 4, 0, none⟩) 1 (fun _ => svcOne w.heap.size) ∧ Below w.heap.size w w' := by
  go_enter Try.func48, Try.ntmps48
  go_wp2
  obtain ⟨h0, h1, h2, h3, h4⟩ := five w (Obj.cells #[.string ⟨#[110, 97, 109, 101]⟩, .int .i64 1, .string ⟨#[]⟩] 138) (Obj.cells #[.string ⟨#[117, 115, 101, 114]⟩, .slice (some ⟨w.heap.size, 0, none⟩) 1 1] 99) (Obj.cells #[.string ⟨#[110, 97, 109, 101]⟩, .string ⟨#[65, 110, 110]⟩, .slice none 0 0] 56) (Obj.cells #[.string ⟨#[117, 115, 101, 114]⟩, .string ⟨#[97, 110, 110]⟩, .slice (some ⟨w.heap.size + 1 + 1, 0, none⟩) 1 1] 90) (Obj.cells #[.slice (some ⟨w.heap.size + 1, 0, none⟩) 1 1, .slice none 0 0, .slice (some ⟨w.heap.size + 1 + 1 + 1, 0, none⟩) 1 1] 74)
  have hB := five_below w (Obj.cells #[.string ⟨#[110, 97, 109, 101]⟩, .int .i64 1, .string ⟨#[]⟩] 138) (Obj.cells #[.string ⟨#[117, 115, 101, 114]⟩, .slice (some ⟨w.heap.size, 0, none⟩) 1 1] 99) (Obj.cells #[.string ⟨#[110, 97, 109, 101]⟩, .string ⟨#[65, 110, 110]⟩, .slice none 0 0] 56) (Obj.cells #[.string ⟨#[117, 115, 101, 114]⟩, .string ⟨#[97, 110, 110]⟩, .slice (some ⟨w.heap.size + 1 + 1, 0, none⟩) 1 1] 90) (Obj.cells #[.slice (some ⟨w.heap.size + 1, 0, none⟩) 1 1, .slice none 0 0, .slice (some ⟨w.heap.size + 1 + 1 + 1, 0, none⟩) 1 1] 74)
  go_ret
  generalize (((((w.alloc (Obj.cells #[.string ⟨#[110, 97, 109, 101]⟩, .int .i64 1, .string ⟨#[]⟩] 138)).alloc (Obj.cells #[.string ⟨#[117, 115, 101, 114]⟩, .slice (some ⟨w.heap.size, 0, none⟩) 1 1] 99)).alloc (Obj.cells #[.string ⟨#[110, 97, 109, 101]⟩, .string ⟨#[65, 110, 110]⟩, .slice none 0 0] 56)).alloc (Obj.cells #[.string ⟨#[117, 115, 101, 114]⟩, .string ⟨#[97, 110, 110]⟩, .slice (some ⟨w.heap.size + 1 + 1, 0, none⟩) 1 1] 90)).alloc (Obj.cells #[.slice (some ⟨w.heap.size + 1, 0, none⟩) 1 1, .slice none 0 0, .slice (some ⟨w.heap.size + 1 + 1 + 1, 0, none⟩) 1 1] 74)) = D at *
  have s1 : Small ⟨#[110, 97, 109, 101]⟩ := small5 _ 4 rfl (by decide)
  have s2 : Small ⟨#[117, 115, 101, 114]⟩ := small5 _ 4 rfl (by decide)
  have s3 : Small ⟨#[97, 110, 110]⟩ := small5 _ 3 rfl (by decide)
  have s4 : Small ⟨#[65, 110, 110]⟩ := small5 _ 3 rfl (by decide)
  have s0 : Small ⟨#[]⟩ := small5 _ 0 rfl (by decide)
  refine ⟨rfl, ⟨by decide, fun i hi => ?_⟩, hB⟩
  obtain rfl : i = 0 := by omega
  refine ⟨w.heap.size + 4, 0, rfl, ⟨by simp [World.cell?, h4, svcOne], by simp [World.cell?, h4, svcOne], by simp [World.cell?, h4, svcOne], ⟨show 1 ≤ maxLen by decide, fun i hi => ?_⟩, ⟨show 1 ≤ maxLen by decide, fun i hi => ?_⟩, Nat.le_refl 1, Nat.le_refl 1⟩⟩
  · obtain rfl : i = 0 := by have : i < 1 := hi; omega
    refine ⟨w.heap.size + 1, 0, rfl, ⟨by simp [World.cell?, h1, svcOne], by simp [World.cell?, h1, svcOne], Nat.le_refl 1, s2, ⟨show 1 ≤ maxLen by decide, fun j hj => ?_⟩⟩⟩
    obtain rfl : j = 0 := by have : j < 1 := hj; omega
    exact ⟨w.heap.size, 0, rfl, by simp [World.cell?, h0, svcOne], by simp [World.cell?, h0, svcOne], by simp [World.cell?, h0, svcOne], s1, s0, rfl⟩
  · obtain rfl : i = 0 := by have : i < 1 := hi; omega
    refine ⟨w.heap.size + 3, 0, rfl, ⟨by simp [World.cell?, h3, svcOne], by simp [World.cell?, h3, svcOne], by simp [World.cell?, h3, svcOne], Nat.le_refl 1, s2, s3, ⟨show 1 ≤ maxLen by decide, fun j hj => ?_⟩⟩⟩
    obtain rfl : j = 0 := by have : j < 1 := hj; omega
    exact ⟨w.heap.size + 2, 0, rfl, by simp [World.cell?, h2, svcOne], by simp [World.cell?, h2, svcOne], by simp [World.cell?, h2, svcOne], Nat.le_refl 0, s1, s4, ⟨Nat.zero_le _, fun q hq => absurd hq (Nat.not_lt_zero _)⟩⟩

def askOne (ka fa : Option Addr) : LReq := ⟨0, ⟨#[117, 115, 101, 114]⟩, ka, 2, 2, fun i => if i = 0 then ⟨#[98, 111, 98]⟩ else ⟨#[97, 110, 110]⟩, fa, 1, 1, fun _ => ⟨#[110, 97, 109, 101]⟩⟩
theorem alive_wrong (h : Nat) (ka fa : Option Addr) : wrongQ 1 (fun _ => svcOne h) (askOne ka fa) = 0 := by kernel_rfl
theorem alive_f0 (h : Nat) : foundI (svcOne h) ⟨#[117, 115, 101, 114]⟩ ⟨#[98, 111, 98]⟩ = false := by kernel_rfl
theorem alive_f1 (h : Nat) : foundI (svcOne h) ⟨#[117, 115, 101, 114]⟩ ⟨#[97, 110, 110]⟩ = true := by kernel_rfl
theorem alive_v1 (h : Nat) : valsL (thingOf (svcOne h) ⟨#[117, 115, 101, 114]⟩ ⟨#[97, 110, 110]⟩) 1 (fun _ => ⟨#[110, 97, 109, 101]⟩) = [⟨⟨#[110, 97, 109, 101]⟩, ⟨#[65, 110, 110]⟩, none, 0, 0, fun _ => ⟨#[]⟩⟩] := by kernel_rfl

set_option maxRecDepth 100000 in
set_option maxHeartbeats 2000000 in
theorem alive5_any (w : World) : Calls Try.prog 23 #[] w fun e w' => e = .returned (.bool true) ∧ Below w.heap.size w w' := by
  go_enter Try.func23, Try.ntmps23
  go_wp2_with fail
  refine (one5_any w).mono ?_
  rintro e w1 ⟨rfl, hS, hw1⟩
  generalize hX : (w1.alloc (Obj.cells #[.string ⟨#[98, 111, 98]⟩, .string ⟨#[97, 110, 110]⟩] 9)).alloc (Obj.cells #[.string ⟨#[110, 97, 109, 101]⟩] 9) = X
  have hBX : Below w1.heap.size w1 X := by rw [← hX]; exact below2 _ _ _
  have hq : ReqOk X (askOne (some ⟨w1.heap.size, 0, none⟩) (some ⟨w1.heap.size + 1, 0, none⟩)) := by
    refine ⟨⟨show 2 ≤ maxLen by decide, fun i hi => ⟨w1.heap.size, 0, rfl, ?_⟩⟩, ⟨show 1 ≤ maxLen by decide, fun i hi => ⟨w1.heap.size + 1, 0, rfl, ?_⟩⟩, rfl, Nat.le_refl 2, Nat.le_refl 1, small5 _ 4 rfl (by decide)⟩
    · have hi' : i = 0 ∨ i = 1 := by have : i < 2 := hi; omega
      rcases hi' with rfl | rfl
      · exact ⟨by rw [← hX, World.cell?_alloc_past _ _ _ (by simp), World.cell?_alloc_at _ _ _ _ rfl]; rfl, small5 _ 3 rfl (by decide)⟩
      · exact ⟨by rw [← hX, World.cell?_alloc_past _ _ _ (by simp), World.cell?_alloc_at _ _ _ _ rfl]; rfl, small5 _ 3 rfl (by decide)⟩
    · obtain rfl : i = 0 := by have : i < 1 := hi; omega
      exact ⟨by rw [← hX, World.cell?_alloc_at _ _ _ _ (by simp)]; rfl, small5 _ 4 rfl (by decide)⟩
  have hcl := answer_any (some ⟨w.heap.size + 4, 0, none⟩) 1 1 (fun _ => svcOne w.heap.size) (askOne (some ⟨w1.heap.size, 0, none⟩) (some ⟨w1.heap.size + 1, 0, none⟩)) X (hS.kept hBX) (fun i _ k hk => by
    obtain rfl : k = 0 := by have : k < 1 := hk; omega
    refine ⟨show 1 * 56 ≤ 140737488355328 by decide, fun q hq => ?_⟩
    obtain rfl : q = 0 := by have : q < 1 := hq; omega
    show 0 * 16 ≤ 140737488355328
    decide) hq (show 2 * 16 ≤ 140737488355328 by decide)
  rw [alive_wrong] at hcl
  have HB1 : Hid (Below w.heap.size w X) := hw1.trans (hBX.mono hw1.size)
  clear hS hw1 hBX hq
  unfold reqV askOne at hcl
  simp only [if_true] at hcl
  go_wp2_with fail
  clear hX
  refine hcl.mono ?_
  clear hcl
  rintro e w2 ⟨fv, vv, rfl, hR, hw2⟩
  obtain ⟨fa, fc, va, vc, rfl, rfl, -, -⟩ := hR.slices
  generalize hY : w2.alloc (Obj.cells #[.slice fa 2 fc, .slice va 2 vc] 46) = Y
  have hBY : Below w2.heap.size w2 Y := by rw [← hY]; exact below1 _ _
  have d0 : Y.cell? ⟨w2.heap.size, 0, none⟩ = some (.slice fa 2 fc) := by rw [← hY, World.cell?_alloc_at _ _ _ _ rfl]; rfl
  have d1 : Y.cell? ⟨w2.heap.size, 1, none⟩ = some (.slice va 2 vc) := by rw [← hY, World.cell?_alloc_at _ _ _ _ rfl]; rfl
  have hRY := hR.kept hBY hw2.size
  obtain ⟨gf, gv, sa, sc, U, rfl, rfl, f0, -, -, -, -⟩ := hRY.at (j := 0) (by decide)
  obtain ⟨gf', gv', sa', sc', U', e1, e2, f1, s1, -, hU, hS⟩ := hRY.at (j := 1) (by decide)
  cases e1
  cases e2
  have f0' : Y.cell? ⟨gf, 0, none⟩ = some (.bool false) := by rw [f0]; exact congrArg (fun b => some (Value.bool b)) (alive_f0 w.heap.size)
  have f1' : Y.cell? ⟨gf, 1, none⟩ = some (.bool true) := by rw [f1]; exact congrArg (fun b => some (Value.bool b)) (alive_f1 w.heap.size)
  have hL := alive_v1 w.heap.size
  simp only [show ¬ ((1 : Nat) = 0) by decide, if_false] at s1 hU hS
  rw [hL] at s1 hU hS
  obtain ⟨b, o, rfl, -, u1, -⟩ := hU.2 0 (by decide)
  have hs := (hS 0 (by decide)).2.1
  have hs' : (U' 0).text = ⟨#[65, 110, 110]⟩ := hs
  rw [hs'] at u1
  have HBY : Hid (Below w.heap.size w Y) := (HB1.out.trans (hw2.mono HB1.out.size)).trans (hBY.mono (HB1.out.trans (hw2.mono HB1.out.size)).size)
  simp only [List.length_cons, List.length_nil] at s1
  clear hR hw2 hBY hRY hU hS f0 f1 hs hs' hL
  go_wp2_with fail
  go_ret
  exact ⟨rfl, HBY.out⟩
end Go.Proofs.Ytjjggefmmeminab
