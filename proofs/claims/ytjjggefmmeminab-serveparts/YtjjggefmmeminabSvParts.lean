/-
  The contract of stitchlaw5.ServeParts: it answers true.
-/
import Derived.Test.YtjjggefmmeminabSvCopy
import Derived.Test.YtjjggefmmeminabSvCut
import Derived.Test.YtjjggefmmeminabSvTail
namespace Go.Proofs.Ytjjggefmmeminab
open Go.RowKit Go.Sort

set_option maxRecDepth 100000 in
set_option maxHeartbeats 8000000 in
theorem serveParts_any (a : Option Addr) (n cap : Nat) (V : Nat → SServ) (q : LReq) (at' : Int) (w : World) (hV : SServsAt w a n V) (hL : ∀ i, i < n → LightS (V i)) (hq : ReqOk w q) (hqk : q.nk * 16 ≤ 140737488355328 - 4096) :
    Calls Try.prog 6 #[.slice a n cap, reqV q, .int .i64 at'] w fun e w' => e = .returned (.bool true) ∧ Below w.heap.size w w' := by
  obtain ⟨iB, bi, bz0, bz1, bz2⟩ := info_parts' Try.info4
  obtain ⟨iV, vi, vz0, vz1, vz2⟩ := info_parts' Try.info54
  have hc1 := fun W (hB : Below w.heap.size w W) (q' : LReq) (hq' : ReqOk w q') (hk' : q'.nk * 16 ≤ 140737488355328) (base : Nat) (hb : base ≤ W.heap.size) => answerB_any a n cap V q' W (hV.kept hB) hL (hq'.kept hB) hk' base hb
  have hnk : q.nk ≤ 9223372036854775807 := hq.keys.1
  have hkc := hq.kcap
  have HQ0 := Hid.intro hq
  have hcq := fun W (hB : Below w.heap.size w W) => hc1 W hB q hq (by omega) W.heap.size (Nat.le_refl _)
  unfold reqV at hcq
  unfold reqV
  generalize hW : w.alloc (Obj.cells #[.int .i64 q.svc, .string q.type, .slice q.ka q.nk q.kcap, .slice q.fa q.nf q.fcap] 42) = W
  have hB : Below w.heap.size w W := by rw [← hW]; exact below1 _ _
  have hbq : W.heap[w.heap.size]? = some (.cells #[.int .i64 q.svc, .string q.type, .slice q.ka q.nk q.kcap, .slice q.fa q.nf q.fcap] 42 (0, 0)) := by rw [← hW]; exact heap_alloc_new _ _
  have HB := Hid.intro hB
  have HBQ := Hid.intro hbq
  have HC := Hid.intro hcq
  have HC1 := Hid.intro hc1
  clear hc1 hcq hV hL hq hB hbq
  go_enter Try.func6, Try.ntmps6
  go_wp2_with fail
  clear hW
  refine (alive5_any W).mono ?_
  rintro e w1 ⟨rfl, hw1⟩
  have hB1 : Below w.heap.size w w1 := HB.out.trans (hw1.mono HB.out.size)
  have hbq := (hw1.block _ (lt_of_block HBQ.out)).trans HBQ.out
  obtain ⟨k0, k1, k2, k3⟩ : w1.cell? ⟨w.heap.size, 0, none⟩ = some (.int .i64 q.svc) ∧ w1.cell? ⟨w.heap.size, 1, none⟩ = some (.string q.type) ∧ w1.cell? ⟨w.heap.size, 2, none⟩ = some (.slice q.ka q.nk q.kcap) ∧ w1.cell? ⟨w.heap.size, 3, none⟩ = some (.slice q.fa q.nf q.fcap) := by simp [World.cell?, hbq]
  have hcl := HC.out w1 hB1
  have HB1 := Hid.intro hB1
  have HBQ1 := Hid.intro hbq
  clear hw1 hB1 hbq HC HB HBQ
  go_wp2_with fail
  refine hcl.mono ?_
  clear hcl
  rintro e w2 ⟨fv, vv, rfl, hR, hw2⟩
  obtain ⟨ra, rc, va, vc, rfl, rfl, -, -⟩ := hR.slices
  by_cases hwr : wrongQ n V q = 0
  case neg =>
    have hb : (wrongQ n V q != 0) = true := by simpa using hwr
    have HB2 : Hid (Below w.heap.size w w2) := HB1.out.trans (hw2.mono HB1.out.size)
    rw [if_neg hwr]
    clear hR hw2 hwr
    go_wp2_with fail
    go_ret
    exact ⟨rfl, HB2.out.trans ((below1 _ _).mono HB2.out.size)⟩
  have HWR := Hid.intro hwr
  rw [hwr, if_pos rfl] at hR
  rw [hwr, if_pos rfl]
  generalize hY : w2.alloc (Obj.cells #[.slice ra q.nk rc, .slice va q.nk vc] 46) = Y
  have hBY : Below w2.heap.size w2 Y := by rw [← hY]; exact below1 _ _
  have hb7 : Y.heap[w2.heap.size]? = some (.cells #[.slice ra q.nk rc, .slice va q.nk vc] 46 (0, 0)) := by rw [← hY]; exact heap_alloc_new _ _
  have hB12 := hw2.trans (hBY.mono hw2.size)
  have HBY : Hid (Below w.heap.size w Y) := HB1.out.trans (hB12.mono HB1.out.size)
  have HRY := Hid.intro (hR.kept hBY hw2.size)
  have hbqY := (hB12.block _ (lt_of_block HBQ1.out)).trans HBQ1.out
  have HZ : Hid (w1.heap.size ≤ Y.heap.size) := hB12.size
  have HB7 := Hid.intro hb7
  have HBQY := Hid.intro hbqY
  have k2 := keptCell hB12 k2
  clear hR hw2 hBY hB12 hwr hb7 hbqY k0 k1 k3 HBQ1
  by_cases h1 : at' < 0
  · go_wp2_with fail
    go_ret
    exact ⟨rfl, HBY.out⟩
  by_cases h2 : (q.nk : Int) < at'
  · go_wp2_with fail
    go_ret
    exact ⟨rfl, HBY.out⟩
  obtain ⟨m, hm⟩ : ∃ m : Nat, at' = (m : Int) := ⟨at'.toNat, by omega⟩
  subst hm
  have hmn : m ≤ q.nk := by omega
  have hm0 : (0 : Int) ≤ (m : Int) := by omega
  have hm1 : (m : Int) ≤ (q.nk : Int) := by omega
  have hm2 : (m : Int) ≤ (q.kcap : Int) := by omega
  go_upto_region 8 with fail
  clear hY k2
  generalize w2.heap.size = b7 at *
  refine copy_region (q := q) HBQY _ _ _ _ _ _ _ _ _ _ _ _ _ _ _ _ _ _ _ _ _ _ _ _ _ _ _ _ _ _ _ _ _ _ _ _ _ _ _ _ _ _ _ _ _ _ _ _ _ _ _ _ _ _ _ _ _ _ _ _ _ _ _ _ _ _ _ _ _ _ _ _ _ _ _ _ _ _ _ _ _ _ _ _ _ (Hid.intro ?_)
  intro u41 u42 bx by' w3 hne hx1 hy1 hbx hby hbc
  have hbq3 := (hbc.block _ (lt_of_block HBQY.out)).trans HBQY.out
  have hlq : w.heap.size < Y.heap.size := lt_of_block HBQY.out
  rename_i Kx hKx
  refine hKx _ _ ?_
  clear hKx
  refine wp_seq ?_
  refine cut_region (q := q) (m := m) hne (by omega) (by omega) hmn hkc (Hid.intro hbq3) (Hid.intro hbx) (Hid.intro hby) _ _ _ _ _ _ _ _ _ _ _ _ _ _ _ _ _ _ _ _ _ _ _ _ _ _ _ _ _ _ _ _ _ _ _ _ _ _ _ _ _ _ _ _ _ _ _ _ _ _ _ _ _ _ _ _ _ _ _ _ _ _ _ _ _ _ _ _ _ _ _ _ _ _ _ _ _ _ _ _ _ _ (Hid.intro ?_)
  intro u43 u44 u45 u46 u47 u48 u49 u50 u51 u52 wc hcut
  show Code.wp _ _ _ _ _
  have hB5 : Below Y.heap.size Y wc := by
    rw [hcut]
    exact ((hbc.setCell hx1 _).setCell hy1 _).drew
  have hbx5 : wc.heap[bx]? = some (.cells #[.int .i64 q.svc, .string q.type, .slice q.ka m q.kcap, .slice q.fa q.nf q.fcap] 42 (0, 0)) := by
    rw [hcut]
    show ((w3.setCell ⟨bx, 2, none⟩ (.slice q.ka m q.kcap)).setCell ⟨by', 2, none⟩ _).heap[bx]? = _
    rw [Below.heap_setCell _ _ _ _ (show bx ≠ by' from hne), heap_setCell_same w3 bx 2 _ 42 _ hbx]; rfl
  have hby5 : wc.heap[by']? = some (.cells #[.int .i64 q.svc, .string q.type, .slice (if q.kcap = m then q.ka else Option.map (fun x => x.add m) q.ka) (q.nk - m) (q.kcap - m), .slice q.fa q.nf q.fcap] 42 (0, 0)) := by
    rw [hcut]
    show ((w3.setCell ⟨bx, 2, none⟩ (.slice q.ka m q.kcap)).setCell ⟨by', 2, none⟩ _).heap[by']? = _
    have h0 : (w3.setCell ⟨bx, 2, none⟩ (.slice q.ka m q.kcap)).heap[by']? = some (.cells #[.int .i64 q.svc, .string q.type, .slice q.ka q.nk q.kcap, .slice q.fa q.nf q.fcap] 42 (0, 0)) := (Below.heap_setCell _ _ _ _ (show by' ≠ bx from hne.symm)).trans hby
    rw [heap_setCell_same _ by' 2 _ 42 _ h0]; rfl
  exact parts_tail a n cap V q w w1 Y wc m b7 bx by' rc vc ra va HC1 HQ0 hqk HWR hmn HBY HZ HRY HB7 hB5 hbx5 hby5 _ _ _ _ _ _ _ _ _ _ _ _ _ _ _ _ _ _ _ _ _ _ _ _ _ _ _ _ _ _ _ _ _ _ _ _ _ _ _ _ _ _ _ _ _ _ _ _ _ _ _ _ _ _ _ _ _ _ _ _ _ _ _ _ _ _ _ _ _ _ _ _ _ _ _ _ _ _ _ _ _ _
end Go.Proofs.Ytjjggefmmeminab
