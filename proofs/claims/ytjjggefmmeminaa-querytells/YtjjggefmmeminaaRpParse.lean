/-
  The contract of stitchref4.Parse.
-/
import Derived.Test.YtjjggefmmeminaaRpList
import Derived.Test.YtjjggefmmeminaaQpParse
namespace Go.Proofs.Ytjjggefmmeminaa
open Go.RowKit Go.Sort Go.PlainAid

set_option maxRecDepth 100000 in
set_option maxHeartbeats 4000000 in
theorem rparse_any (s : ByteArray) (w : World) (hs : Small s) :
    Calls Try.prog 43 #[.string s] w fun e w' => ParseOut s w e w' := by
  unfold Small maxLen at hs
  by_cases h1000 : 1000 < s.size
  · have h1000' : (1000 : Int) < (s.size : Int) := by omega
    have HF : Hid (parse s = .error (3, 0)) := by unfold parse; rw [if_pos h1000]; rfl
    clear h1000
    go_enter Try.func43, Try.ntmps43
    go_wp2_with fail
    exact bodyPost_ret (v := .tuple #[.agg #[.string ⟨#[]⟩, .string ⟨#[]⟩, .slice none 0 0], .agg #[.int .i64 3, .int .i64 0]]) (by simp [results, Try.results43, go_sem]) rfl ⟨fun r h => (by rw [HF.out] at h; cases h), fun x h => (by rw [HF.out] at h; cases h; rfl), below2 _ _ _⟩
  have h1000' : ¬ (1000 : Int) < (s.size : Int) := by omega
  have HPS : Hid (parse s = pAsk s) := by unfold parse; rw [if_neg h1000]; rfl
  have hs : s.size ≤ 1000 := by omega
  obtain ⟨b, hbe⟩ : ∃ b, b = w.heap.size + 2 := ⟨_, rfl⟩
  obtain ⟨W, hW⟩ : ∃ W, W = (((w.alloc (Obj.cells #[.string ⟨#[]⟩, .string ⟨#[]⟩, .slice none 0 0] 87)).alloc (Obj.cells #[.int .i64 0, .int .i64 0] 30)).alloc (Obj.cells #[.string s, .int .i64 0, .int .i64 0, .int .i64 0, .int .i64 0] 138)) := ⟨_, rfl⟩
  have hBW : Below w.heap.size w W := by rw [hW]; exact ((below2 w _ _).alloc (by simp; omega) _)
  have pr : ABox W w.heap.size ⟨#[]⟩ ⟨#[]⟩ none 0 0 := by
    rw [hW]; exact (Below.heap_alloc _ _ _ (by simp; omega)).trans ((Below.heap_alloc _ _ _ (by simp)).trans (heap_alloc_new _ _))
  have hsz1 : (w.alloc (Obj.cells #[.string ⟨#[]⟩, .string ⟨#[]⟩, .slice none 0 0] 87)).heap.size = w.heap.size + 1 := by simp
  have hsz2 : ((w.alloc (Obj.cells #[.string ⟨#[]⟩, .string ⟨#[]⟩, .slice none 0 0] 87)).alloc (Obj.cells #[.int .i64 0, .int .i64 0] 30)).heap.size = w.heap.size + 2 := by simp
  have pf : W.heap[w.heap.size + 1]? = some (.cells #[.int .i64 0, .int .i64 0] 30 (0, 0)) := by
    rw [hW, ← hsz1]; exact (Below.heap_alloc _ _ _ (by simp)).trans (heap_alloc_new _ _)
  have hb : WBox W (w.heap.size + 2) s 0 0 0 0 := by rw [hW, ← hsz2]; exact heap_alloc_new _ _
  have hcl := rname_ok (w.heap.size + 2) s 0 0 W hb (Nat.zero_le _) hs
  have hbl := hb.lt
  have HBW := hidI hBW
  have HPR := hidI pr
  have HPF := hidI pf
  clear hBW pr pf hb hsz1 hsz2 h1000
  go_enter Try.func43, Try.ntmps43
  go_wp2_with fail
  rw [← hW]
  clear hW
  refine hcl.mono ?_
  clear hcl
  rw [← hbe]
  rw [← hbe] at hbl
  have hbg : w.heap.size + 2 ≤ b := by omega
  have hbg2 : b ≤ w.heap.size + 2 := by omega
  clear hbe
  rintro e w1 ⟨⟨t0, rfl, ht0⟩, hok, herr, hA⟩
  have hw1 : W.heap.size ≤ w1.heap.size := hA.size
  obtain ⟨U, hU⟩ : ∃ U, U = w1.alloc (Obj.cells #[.string t0, .string ⟨#[]⟩, .slice none 0 0] 87) := ⟨_, rfl⟩
  have hBU : Below w1.heap.size w1 U := by rw [hU]; exact below1 _ _
  have HPU : Hid (ABox U w1.heap.size t0 ⟨#[]⟩ none 0 0) := by rw [hU]; exact heap_alloc_new _ _
  have HAU : Hid (Away b W U) := hA.trans (Away.of hBU)
  clear hA
  go_wp2_with fail
  rw [← hU]
  clear hU
  cases h1 : pName s 0 with
  | error x =>
    have HF : Hid (parse s = .error x) := by refine hidI ?_; rw [HPS.out]; unfold pAsk; simp only [h1]
    have HBZ := hidI ((herr x h1).kept hBU)
    have HPZ := HPU
    have HAZ := HAU
    clear hok herr ht0 h1 hBU HPU HAU HPS
    refine (need_bad b s x 40 U HBZ.out).mono ?_
    rintro e wo ⟨rfl, hwo⟩
    rw [hwo]
    clear hwo
    go_wp2_with fail
    refine (rname_bad b s x U HBZ.out).mono ?_
    rintro e wo ⟨rfl, hwo⟩
    rw [hwo]
    clear hwo
    have q1 := HPZ.out.c1
    have y1 := HPZ.out.f1
    generalize hX3 : U.setCell ⟨w1.heap.size, 1, none⟩ (.string ⟨#[]⟩) = X3
    have HBX : Hid (WBad X3 b s x) := by rw [← hX3]; exact HBZ.out.other (by omega)
    have HPX : Hid (ABox X3 w1.heap.size t0 ⟨#[]⟩ none 0 0) := by rw [← hX3]; exact HPZ.out.set1 _
    have HAX : Hid (Away b W X3) := by rw [← hX3]; exact HAZ.out.setNew (by omega)
    clear HBZ HPZ HAZ
    go_wp2_with fail
    clear hX3 q1 y1
    have HBZ := HBX
    have HPZ := HPX
    have HAZ := HAX
    clear HBX HPX HAX
    refine (need_bad b s x 41 X3 HBZ.out).mono ?_
    rintro e wo ⟨rfl, hwo⟩
    rw [hwo]
    clear hwo
    go_wp2_with fail
    refine (ok_bad b s x X3 HBZ.out).mono ?_
    rintro e wo ⟨rfl, hwo⟩
    rw [hwo]
    clear hwo
    go_wp2_with fail
    refine (ok_bad b s x X3 HBZ.out).mono ?_
    rintro e wo ⟨rfl, hwo⟩
    rw [hwo]
    clear hwo
    go_wp2_with fail
    refine (ok_bad b s x X3 HBZ.out).mono ?_
    rintro e wo ⟨rfl, hwo⟩
    rw [hwo]
    clear hwo
    have prz := HPR.out.away HAZ.out (by omega)
    have pfz : X3.heap[w.heap.size + 1]? = some (.cells #[.int .i64 0, .int .i64 0] 30 (0, 0)) := (HAZ.out.block _ (lt_of_block HPF.out) (by omega)).trans HPF.out
    have z0 := prz.c0
    have z1 := prz.c1
    have z2 := prz.c2
    have y0 := prz.f0
    have y1 := prz.f1
    have y2 := prz.f2
    obtain ⟨q0, q1, x0, x1⟩ := box_cells pfz
    obtain ⟨x3, x4⟩ : X3.cell? ⟨b, 3, none⟩ = some (.int .i64 x.1) ∧ X3.cell? ⟨b, 4, none⟩ = some (.int .i64 (x.2 : Int)) := let ⟨_, _, _, _, hbx⟩ := HBZ.out; ⟨hbx.c3, hbx.c4⟩
    have hB1 := HAZ.out.below HBW.out (by omega) HBW.out.size
    obtain ⟨Z, hZ⟩ : ∃ Z, Z = (((((X3.setCell ⟨w.heap.size, 0, none⟩ (.string ⟨#[]⟩)).setCell ⟨w.heap.size, 1, none⟩ (.string ⟨#[]⟩)).setCell ⟨w.heap.size, 2, none⟩ (.slice none 0 0)).setCell ⟨w.heap.size + 1, 0, none⟩ (.int .i64 x.1)).setCell ⟨w.heap.size + 1, 1, none⟩ (.int .i64 (x.2 : Int))).drew := ⟨_, rfl⟩
    have hC : Caught X3 Z w.heap.size (w.heap.size + 1) x := by rw [hZ]; exact (caught_set (by omega) prz pfz).drewN 1
    have HB2 : Hid (Below w.heap.size w Z) := hB1.trans ⟨hC.os, hC.tape, hC.output, hC.size, fun k hk => hC.block k (by have := hB1.size; omega) (by omega) (by omega)⟩
    have HC := hidI hC
    clear prz pfz HPZ HBZ HAZ HPR HPF HBW hC hB1
    go_wp2_with fail
    go_region
    rw [← hZ]
    clear hZ z0 z1 z2 y0 y1 y2 q0 q1 x0 x1 x3 x4
    have z0 := HC.out.ask.c0
    have z1 := HC.out.ask.c1
    have z2 := HC.out.ask.c2
    obtain ⟨q0, q1, -, -⟩ := box_cells HC.out.fault
    go_wp2_with fail
    exact bodyPost_ret (v := .tuple #[.agg #[.string ⟨#[]⟩, .string ⟨#[]⟩, .slice none 0 0], .agg #[.int .i64 x.1, .int .i64 (x.2 : Int)]]) (by simp [results, Try.results43, go_sem, z0, z1, z2, q0, q1]) rfl ⟨fun r h => (by rw [HF.out] at h; cases h), fun y h => (by rw [HF.out] at h; cases h; rfl), HB2.out⟩
  | ok t =>
  have ht' := ht0 t h1
  subst ht'
  obtain ⟨-, ht2, -⟩ := pName_at h1
  have hrU := (hok t h1).kept hBU
  clear hok herr ht0 hBU
  refine (need_ok b s t.2 0 40 U hrU ht2 hs).mono ?_
  clear hrU
  rintro e w2 ⟨rfl, hok2, herr2, hA2⟩
  have HP2 := hidI (HPU.out.away hA2 (by omega))
  have HA2 : Hid (Away b W w2) := HAU.out.trans hA2
  clear hA2 HPU HAU
  go_wp2_with fail
  cases h2 : pSign s 40 t.2 with
  | error x =>
    have HF : Hid (parse s = .error x) := by refine hidI ?_; rw [HPS.out]; unfold pAsk; simp only [h1, h2]
    have HBZ := hidI (herr2 x h2)
    have HPZ := HP2
    have HAZ := HA2
    clear hok2 herr2 h1 h2 HP2 HA2 HPS
    refine (rname_bad b s x w2 HBZ.out).mono ?_
    rintro e wo ⟨rfl, hwo⟩
    rw [hwo]
    clear hwo
    have q1 := HPZ.out.c1
    have y1 := HPZ.out.f1
    generalize hX3 : w2.setCell ⟨w1.heap.size, 1, none⟩ (.string ⟨#[]⟩) = X3
    have HBX : Hid (WBad X3 b s x) := by rw [← hX3]; exact HBZ.out.other (by omega)
    have HPX : Hid (ABox X3 w1.heap.size t.1 ⟨#[]⟩ none 0 0) := by rw [← hX3]; exact HPZ.out.set1 _
    have HAX : Hid (Away b W X3) := by rw [← hX3]; exact HAZ.out.setNew (by omega)
    clear HBZ HPZ HAZ
    go_wp2_with fail
    clear hX3 q1 y1
    have HBZ := HBX
    have HPZ := HPX
    have HAZ := HAX
    clear HBX HPX HAX
    refine (need_bad b s x 41 X3 HBZ.out).mono ?_
    rintro e wo ⟨rfl, hwo⟩
    rw [hwo]
    clear hwo
    go_wp2_with fail
    refine (ok_bad b s x X3 HBZ.out).mono ?_
    rintro e wo ⟨rfl, hwo⟩
    rw [hwo]
    clear hwo
    go_wp2_with fail
    refine (ok_bad b s x X3 HBZ.out).mono ?_
    rintro e wo ⟨rfl, hwo⟩
    rw [hwo]
    clear hwo
    go_wp2_with fail
    refine (ok_bad b s x X3 HBZ.out).mono ?_
    rintro e wo ⟨rfl, hwo⟩
    rw [hwo]
    clear hwo
    have prz := HPR.out.away HAZ.out (by omega)
    have pfz : X3.heap[w.heap.size + 1]? = some (.cells #[.int .i64 0, .int .i64 0] 30 (0, 0)) := (HAZ.out.block _ (lt_of_block HPF.out) (by omega)).trans HPF.out
    have z0 := prz.c0
    have z1 := prz.c1
    have z2 := prz.c2
    have y0 := prz.f0
    have y1 := prz.f1
    have y2 := prz.f2
    obtain ⟨q0, q1, x0, x1⟩ := box_cells pfz
    obtain ⟨x3, x4⟩ : X3.cell? ⟨b, 3, none⟩ = some (.int .i64 x.1) ∧ X3.cell? ⟨b, 4, none⟩ = some (.int .i64 (x.2 : Int)) := let ⟨_, _, _, _, hbx⟩ := HBZ.out; ⟨hbx.c3, hbx.c4⟩
    have hB1 := HAZ.out.below HBW.out (by omega) HBW.out.size
    obtain ⟨Z, hZ⟩ : ∃ Z, Z = (((((X3.setCell ⟨w.heap.size, 0, none⟩ (.string ⟨#[]⟩)).setCell ⟨w.heap.size, 1, none⟩ (.string ⟨#[]⟩)).setCell ⟨w.heap.size, 2, none⟩ (.slice none 0 0)).setCell ⟨w.heap.size + 1, 0, none⟩ (.int .i64 x.1)).setCell ⟨w.heap.size + 1, 1, none⟩ (.int .i64 (x.2 : Int))).drew := ⟨_, rfl⟩
    have hC : Caught X3 Z w.heap.size (w.heap.size + 1) x := by rw [hZ]; exact (caught_set (by omega) prz pfz).drewN 1
    have HB2 : Hid (Below w.heap.size w Z) := hB1.trans ⟨hC.os, hC.tape, hC.output, hC.size, fun k hk => hC.block k (by have := hB1.size; omega) (by omega) (by omega)⟩
    have HC := hidI hC
    clear prz pfz HPZ HBZ HAZ HPR HPF HBW hC hB1
    go_wp2_with fail
    go_region
    rw [← hZ]
    clear hZ z0 z1 z2 y0 y1 y2 q0 q1 x0 x1 x3 x4
    have z0 := HC.out.ask.c0
    have z1 := HC.out.ask.c1
    have z2 := HC.out.ask.c2
    obtain ⟨q0, q1, -, -⟩ := box_cells HC.out.fault
    go_wp2_with fail
    exact bodyPost_ret (v := .tuple #[.agg #[.string ⟨#[]⟩, .string ⟨#[]⟩, .slice none 0 0], .agg #[.int .i64 x.1, .int .i64 (x.2 : Int)]]) (by simp [results, Try.results43, go_sem, z0, z1, z2, q0, q1]) rfl ⟨fun r h => (by rw [HF.out] at h; cases h), fun y h => (by rw [HF.out] at h; cases h; rfl), HB2.out⟩
  | ok i =>
  obtain ⟨-, hi2⟩ := pSign_at h2
  refine (rname_ok b s i 0 w2 (hok2 i h2) hi2 hs).mono ?_
  rintro e w3 ⟨⟨k0, rfl, hk0⟩, hok3, herr3, hA3⟩
  have hp3 := HP2.out.away hA3 (by omega)
  have hA3' : Away b W w3 := HA2.out.trans hA3
  have q1 := hp3.c1
  have y1 := hp3.f1
  generalize hX3 : w3.setCell ⟨w1.heap.size, 1, none⟩ (.string k0) = X3
  have HPX : Hid (ABox X3 w1.heap.size t.1 k0 none 0 0) := by rw [← hX3]; exact hp3.set1 _
  have HAX : Hid (Away b W X3) := by rw [← hX3]; exact hA3'.setNew (by omega)
  have HOX : Hid (∀ r, pName s i = .ok r → WBox X3 b s r.2 0 0 0) := fun r h => by rw [← hX3]; exact (hok3 r h).other (by omega)
  have HEX : Hid (∀ x, pName s i = .error x → WBad X3 b s x) := fun x h => by rw [← hX3]; exact (herr3 x h).other (by omega)
  clear hok2 herr2 hok3 herr3 hA3 hA3' hp3 HP2 HA2
  go_wp2_with fail
  clear hX3 q1 y1
  cases h3 : pName s i with
  | error x =>
    have HF : Hid (parse s = .error x) := by refine hidI ?_; rw [HPS.out]; unfold pAsk; simp only [h1, h2, h3]
    have HBZ := hidI (HEX.out x h3)
    have HPZ := HPX
    have HAZ := HAX
    clear HOX HEX h1 h2 h3 HPX HAX HPS hk0
    refine (need_bad b s x 41 X3 HBZ.out).mono ?_
    rintro e wo ⟨rfl, hwo⟩
    rw [hwo]
    clear hwo
    go_wp2_with fail
    refine (ok_bad b s x X3 HBZ.out).mono ?_
    rintro e wo ⟨rfl, hwo⟩
    rw [hwo]
    clear hwo
    go_wp2_with fail
    refine (ok_bad b s x X3 HBZ.out).mono ?_
    rintro e wo ⟨rfl, hwo⟩
    rw [hwo]
    clear hwo
    go_wp2_with fail
    refine (ok_bad b s x X3 HBZ.out).mono ?_
    rintro e wo ⟨rfl, hwo⟩
    rw [hwo]
    clear hwo
    have prz := HPR.out.away HAZ.out (by omega)
    have pfz : X3.heap[w.heap.size + 1]? = some (.cells #[.int .i64 0, .int .i64 0] 30 (0, 0)) := (HAZ.out.block _ (lt_of_block HPF.out) (by omega)).trans HPF.out
    have z0 := prz.c0
    have z1 := prz.c1
    have z2 := prz.c2
    have y0 := prz.f0
    have y1 := prz.f1
    have y2 := prz.f2
    obtain ⟨q0, q1, x0, x1⟩ := box_cells pfz
    obtain ⟨x3, x4⟩ : X3.cell? ⟨b, 3, none⟩ = some (.int .i64 x.1) ∧ X3.cell? ⟨b, 4, none⟩ = some (.int .i64 (x.2 : Int)) := let ⟨_, _, _, _, hbx⟩ := HBZ.out; ⟨hbx.c3, hbx.c4⟩
    have hB1 := HAZ.out.below HBW.out (by omega) HBW.out.size
    obtain ⟨Z, hZ⟩ : ∃ Z, Z = (((((X3.setCell ⟨w.heap.size, 0, none⟩ (.string ⟨#[]⟩)).setCell ⟨w.heap.size, 1, none⟩ (.string ⟨#[]⟩)).setCell ⟨w.heap.size, 2, none⟩ (.slice none 0 0)).setCell ⟨w.heap.size + 1, 0, none⟩ (.int .i64 x.1)).setCell ⟨w.heap.size + 1, 1, none⟩ (.int .i64 (x.2 : Int))).drew := ⟨_, rfl⟩
    have hC : Caught X3 Z w.heap.size (w.heap.size + 1) x := by rw [hZ]; exact (caught_set (by omega) prz pfz).drewN 1
    have HB2 : Hid (Below w.heap.size w Z) := hB1.trans ⟨hC.os, hC.tape, hC.output, hC.size, fun k hk => hC.block k (by have := hB1.size; omega) (by omega) (by omega)⟩
    have HC := hidI hC
    clear prz pfz HPZ HBZ HAZ HPR HPF HBW hC hB1
    go_wp2_with fail
    go_region
    rw [← hZ]
    clear hZ z0 z1 z2 y0 y1 y2 q0 q1 x0 x1 x3 x4
    have z0 := HC.out.ask.c0
    have z1 := HC.out.ask.c1
    have z2 := HC.out.ask.c2
    obtain ⟨q0, q1, -, -⟩ := box_cells HC.out.fault
    go_wp2_with fail
    exact bodyPost_ret (v := .tuple #[.agg #[.string ⟨#[]⟩, .string ⟨#[]⟩, .slice none 0 0], .agg #[.int .i64 x.1, .int .i64 (x.2 : Int)]]) (by simp [results, Try.results43, go_sem, z0, z1, z2, q0, q1]) rfl ⟨fun r h => (by rw [HF.out] at h; cases h), fun y h => (by rw [HF.out] at h; cases h; rfl), HB2.out⟩
  | ok k =>
  have hk' := hk0 k h3
  subst hk'
  obtain ⟨-, hk2, -⟩ := pName_at h3
  refine (need_ok b s k.2 0 41 X3 (HOX.out k h3) hk2 hs).mono ?_
  rintro e w4 ⟨rfl, hok4, herr4, hA4⟩
  have HP4 := hidI (HPX.out.away hA4 (by omega))
  have HA4 : Hid (Away b W w4) := HAX.out.trans hA4
  clear hA4 HPX HAX HOX HEX hk0
  go_wp2_with fail
  cases h4 : pSign s 41 k.2 with
  | error x =>
    have HF : Hid (parse s = .error x) := by refine hidI ?_; rw [HPS.out]; unfold pAsk; simp only [h1, h2, h3, h4]
    have HBZ := hidI (herr4 x h4)
    have HPZ := HP4
    have HAZ := HA4
    clear hok4 herr4 h1 h2 h3 h4 HP4 HA4 HPS
    refine (ok_bad b s x w4 HBZ.out).mono ?_
    rintro e wo ⟨rfl, hwo⟩
    rw [hwo]
    clear hwo
    go_wp2_with fail
    refine (ok_bad b s x w4 HBZ.out).mono ?_
    rintro e wo ⟨rfl, hwo⟩
    rw [hwo]
    clear hwo
    go_wp2_with fail
    refine (ok_bad b s x w4 HBZ.out).mono ?_
    rintro e wo ⟨rfl, hwo⟩
    rw [hwo]
    clear hwo
    have prz := HPR.out.away HAZ.out (by omega)
    have pfz : w4.heap[w.heap.size + 1]? = some (.cells #[.int .i64 0, .int .i64 0] 30 (0, 0)) := (HAZ.out.block _ (lt_of_block HPF.out) (by omega)).trans HPF.out
    have z0 := prz.c0
    have z1 := prz.c1
    have z2 := prz.c2
    have y0 := prz.f0
    have y1 := prz.f1
    have y2 := prz.f2
    obtain ⟨q0, q1, x0, x1⟩ := box_cells pfz
    obtain ⟨x3, x4⟩ : w4.cell? ⟨b, 3, none⟩ = some (.int .i64 x.1) ∧ w4.cell? ⟨b, 4, none⟩ = some (.int .i64 (x.2 : Int)) := let ⟨_, _, _, _, hbx⟩ := HBZ.out; ⟨hbx.c3, hbx.c4⟩
    have hB1 := HAZ.out.below HBW.out (by omega) HBW.out.size
    obtain ⟨Z, hZ⟩ : ∃ Z, Z = (((((w4.setCell ⟨w.heap.size, 0, none⟩ (.string ⟨#[]⟩)).setCell ⟨w.heap.size, 1, none⟩ (.string ⟨#[]⟩)).setCell ⟨w.heap.size, 2, none⟩ (.slice none 0 0)).setCell ⟨w.heap.size + 1, 0, none⟩ (.int .i64 x.1)).setCell ⟨w.heap.size + 1, 1, none⟩ (.int .i64 (x.2 : Int))).drew := ⟨_, rfl⟩
    have hC : Caught w4 Z w.heap.size (w.heap.size + 1) x := by rw [hZ]; exact (caught_set (by omega) prz pfz).drewN 1
    have HB2 : Hid (Below w.heap.size w Z) := hB1.trans ⟨hC.os, hC.tape, hC.output, hC.size, fun k hk => hC.block k (by have := hB1.size; omega) (by omega) (by omega)⟩
    have HC := hidI hC
    clear prz pfz HPZ HBZ HAZ HPR HPF HBW hC hB1
    go_wp2_with fail
    go_region
    rw [← hZ]
    clear hZ z0 z1 z2 y0 y1 y2 q0 q1 x0 x1 x3 x4
    have z0 := HC.out.ask.c0
    have z1 := HC.out.ask.c1
    have z2 := HC.out.ask.c2
    obtain ⟨q0, q1, -, -⟩ := box_cells HC.out.fault
    go_wp2_with fail
    exact bodyPost_ret (v := .tuple #[.agg #[.string ⟨#[]⟩, .string ⟨#[]⟩, .slice none 0 0], .agg #[.int .i64 x.1, .int .i64 (x.2 : Int)]]) (by simp [results, Try.results43, go_sem, z0, z1, z2, q0, q1]) rfl ⟨fun r h => (by rw [HF.out] at h; cases h), fun y h => (by rw [HF.out] at h; cases h; rfl), HB2.out⟩
  | ok j =>
  obtain ⟨-, hj2⟩ := pSign_at h4
  have HPJ : Hid (parse s = (match pList s 8 j 0 with
            | .error e => .error e
            | .ok r => if skipB s r.2.1 < s.size then .error (2, skipB s r.2.1) else .ok (t.1, k.1, r.1))) := by
    refine hidI ?_
    rw [HPS.out]; unfold pAsk; simp only [h1, h2, h3, h4]
    cases pList s 8 j 0 <;> rfl
  have hr4 := hok4 j h4
  clear hok4 herr4 h1 h2 h3 h4 HPS
  refine (ok_any b s j 0 0 0 w4 hr4).mono ?_
  rintro e wo ⟨rfl, hwo⟩
  rw [hwo]
  clear hwo
  have hq4 := HP4.out.lt
  have hb4 := hr4.lt
  have hW4 := HA4.out.size
  go_wp2_with fail
  refine (rlist_any 8 b s j 0 1 w4 (by omega) hr4 hj2 (by omega) hs).mono ?_
  clear hr4
  rintro e w5 ⟨⟨a5, l5, c5, rfl, hok5⟩, herr5, hA5⟩
  have hp5 := HP4.out.away hA5 (by omega)
  have hA5' : Away b W w5 := HA4.out.trans hA5
  have q2 := hp5.c2
  have y2 := hp5.f2
  generalize hX5 : w5.setCell ⟨w1.heap.size, 2, none⟩ (.slice a5 l5 c5) = X5
  have HPX : Hid (ABox X5 w1.heap.size t.1 k.1 a5 l5 c5) := by rw [← hX5]; exact hp5.set2 _ _ _
  have HAX : Hid (Away b W X5) := by rw [← hX5]; exact hA5'.setNew (by omega)
  have HOX : Hid (∀ r, pList s 8 j 0 = .ok r → l5 = r.1.length ∧ r.1.length ≤ c5 ∧ WBox X5 b s r.2.1 r.2.2 0 0 ∧ PicksFree (fun k => k < w4.heap.size) X5 8 a5 r.1) := fun r h => by
    obtain ⟨h1, h2, h3, h4⟩ := hok5 r h
    refine ⟨h1, h2, by rw [← hX5]; exact h3.other (by omega), h4.step (by rw [← hX5]; simp) (fun k hk hnk => ?_) (fun k _ hk => hk)⟩
    have h5 : ¬ k < w4.heap.size := hnk
    rw [← hX5, Below.heap_setCell _ _ _ _ (by show k ≠ w1.heap.size; omega)]
  have HEX : Hid (∀ x, pList s 8 j 0 = .error x → WBad X5 b s x) := fun x h => by rw [← hX5]; exact (herr5 x h).other (by omega)
  clear hok5 herr5 hA5 hA5' hp5 HP4 HA4
  go_wp2_with fail
  clear hX5 q2 y2
  cases h5 : pList s 8 j 0 with
  | error x =>
    have HF : Hid (parse s = .error x) := by rw [HPJ.out, h5]; rfl
    have HBZ := hidI (HEX.out x h5)
    have HPZ := HPX
    have HAZ := HAX
    clear HOX HEX h5 HPX HAX HPJ
    refine (ok_bad b s x X5 HBZ.out).mono ?_
    rintro e wo ⟨rfl, hwo⟩
    rw [hwo]
    clear hwo
    go_wp2_with fail
    refine (ok_bad b s x X5 HBZ.out).mono ?_
    rintro e wo ⟨rfl, hwo⟩
    rw [hwo]
    clear hwo
    have prz := HPR.out.away HAZ.out (by omega)
    have pfz : X5.heap[w.heap.size + 1]? = some (.cells #[.int .i64 0, .int .i64 0] 30 (0, 0)) := (HAZ.out.block _ (lt_of_block HPF.out) (by omega)).trans HPF.out
    have z0 := prz.c0
    have z1 := prz.c1
    have z2 := prz.c2
    have y0 := prz.f0
    have y1 := prz.f1
    have y2 := prz.f2
    obtain ⟨q0, q1, x0, x1⟩ := box_cells pfz
    obtain ⟨x3, x4⟩ : X5.cell? ⟨b, 3, none⟩ = some (.int .i64 x.1) ∧ X5.cell? ⟨b, 4, none⟩ = some (.int .i64 (x.2 : Int)) := let ⟨_, _, _, _, hbx⟩ := HBZ.out; ⟨hbx.c3, hbx.c4⟩
    have hB1 := HAZ.out.below HBW.out (by omega) HBW.out.size
    obtain ⟨Z, hZ⟩ : ∃ Z, Z = (((((X5.setCell ⟨w.heap.size, 0, none⟩ (.string ⟨#[]⟩)).setCell ⟨w.heap.size, 1, none⟩ (.string ⟨#[]⟩)).setCell ⟨w.heap.size, 2, none⟩ (.slice none 0 0)).setCell ⟨w.heap.size + 1, 0, none⟩ (.int .i64 x.1)).setCell ⟨w.heap.size + 1, 1, none⟩ (.int .i64 (x.2 : Int))).drew := ⟨_, rfl⟩
    have hC : Caught X5 Z w.heap.size (w.heap.size + 1) x := by rw [hZ]; exact (caught_set (by omega) prz pfz).drewN 1
    have HB2 : Hid (Below w.heap.size w Z) := hB1.trans ⟨hC.os, hC.tape, hC.output, hC.size, fun k hk => hC.block k (by have := hB1.size; omega) (by omega) (by omega)⟩
    have HC := hidI hC
    clear prz pfz HPZ HBZ HAZ HPR HPF HBW hC hB1
    go_wp2_with fail
    go_region
    rw [← hZ]
    clear hZ z0 z1 z2 y0 y1 y2 q0 q1 x0 x1 x3 x4
    have z0 := HC.out.ask.c0
    have z1 := HC.out.ask.c1
    have z2 := HC.out.ask.c2
    obtain ⟨q0, q1, -, -⟩ := box_cells HC.out.fault
    go_wp2_with fail
    exact bodyPost_ret (v := .tuple #[.agg #[.string ⟨#[]⟩, .string ⟨#[]⟩, .slice none 0 0], .agg #[.int .i64 x.1, .int .i64 (x.2 : Int)]]) (by simp [results, Try.results43, go_sem, z0, z1, z2, q0, q1]) rfl ⟨fun r h => (by rw [HF.out] at h; cases h), fun y h => (by rw [HF.out] at h; cases h; rfl), HB2.out⟩
  | ok r =>
  obtain ⟨hl5, hc5, hr5, hf5⟩ := HOX.out r h5
  subst hl5
  obtain ⟨-, hr52, -⟩ := (pList_goes s 8 j 0 hj2 (by omega)).1 r h5
  have HPK : Hid (parse s = if skipB s r.2.1 < s.size then .error (2, skipB s r.2.1) else .ok (t.1, k.1, r.1)) := by rw [HPJ.out, h5]; rfl
  have HF5 := hidI hf5
  have hk6 := skip_le hr52
  clear h5 HOX HEX HPJ hf5
  refine (ok_any b s _ _ 0 0 X5 hr5).mono ?_
  rintro e wo ⟨rfl, hwo⟩
  rw [hwo]
  clear hwo
  go_wp2_with fail
  refine (rskip_any b s _ _ 0 0 X5 hr5 hr52 hs).mono ?_
  clear hr5
  generalize skipB s r.2.1 = k6 at *
  rintro e w6 ⟨rfl, hr6, hA6⟩
  have HP6 := hidI (HPX.out.away hA6 (by omega))
  have HA6 : Hid (Away b W w6) := HAX.out.trans hA6
  have HF6 : Hid (PicksFree (fun k => k < w4.heap.size) w6 8 a5 r.1) := HF5.out.step hA6.size (fun k hk hnk => hA6.block k hk (fun e => hnk (by show k < w4.heap.size; omega))) (fun k _ hk => hk)
  have c1 := hr6.c1
  have HR6 := hidI hr6
  clear hA6 HPX HAX HF5 hr6
  by_cases hlt : k6 < s.size
  · have hlt' : (k6 : Int) < (s.size : Int) := by omega
    have HF : Hid (parse s = .error (2, k6)) := by rw [HPK.out, if_pos hlt]; rfl
    clear HPK hlt
    go_wp2_with fail
    clear c1
    refine (stop_ok b s k6 _ 2 w6 HR6.out).mono ?_
    rintro e w7 ⟨rfl, hb7, hA7⟩
    obtain ⟨x, hx⟩ : ∃ x : Int × Nat, x = (2, k6) := ⟨_, rfl⟩
    have HBZ : Hid (WBad w7 b s x) := by rw [hx]; exact ⟨by show (2 : Int) ≠ 0; decide, k6, _, hk6, hb7⟩
    rw [← hx] at HF
    have HPZ := hidI (HP6.out.away hA7 (by omega))
    have HAZ : Hid (Away b W w7) := HA6.out.trans hA7
    clear hb7 hA7 HP6 HA6 HR6 HF6 hx
    go_wp2_with fail
    refine (ok_bad b s x w7 HBZ.out).mono ?_
    rintro e wo ⟨rfl, hwo⟩
    rw [hwo]
    clear hwo
    have prz := HPR.out.away HAZ.out (by omega)
    have pfz : w7.heap[w.heap.size + 1]? = some (.cells #[.int .i64 0, .int .i64 0] 30 (0, 0)) := (HAZ.out.block _ (lt_of_block HPF.out) (by omega)).trans HPF.out
    have z0 := prz.c0
    have z1 := prz.c1
    have z2 := prz.c2
    have y0 := prz.f0
    have y1 := prz.f1
    have y2 := prz.f2
    obtain ⟨q0, q1, x0, x1⟩ := box_cells pfz
    obtain ⟨x3, x4⟩ : w7.cell? ⟨b, 3, none⟩ = some (.int .i64 x.1) ∧ w7.cell? ⟨b, 4, none⟩ = some (.int .i64 (x.2 : Int)) := let ⟨_, _, _, _, hbx⟩ := HBZ.out; ⟨hbx.c3, hbx.c4⟩
    have hB1 := HAZ.out.below HBW.out (by omega) HBW.out.size
    obtain ⟨Z, hZ⟩ : ∃ Z, Z = (((((w7.setCell ⟨w.heap.size, 0, none⟩ (.string ⟨#[]⟩)).setCell ⟨w.heap.size, 1, none⟩ (.string ⟨#[]⟩)).setCell ⟨w.heap.size, 2, none⟩ (.slice none 0 0)).setCell ⟨w.heap.size + 1, 0, none⟩ (.int .i64 x.1)).setCell ⟨w.heap.size + 1, 1, none⟩ (.int .i64 (x.2 : Int))).drew := ⟨_, rfl⟩
    have hC : Caught w7 Z w.heap.size (w.heap.size + 1) x := by rw [hZ]; exact (caught_set (by omega) prz pfz).drewN 1
    have HB2 : Hid (Below w.heap.size w Z) := hB1.trans ⟨hC.os, hC.tape, hC.output, hC.size, fun k hk => hC.block k (by have := hB1.size; omega) (by omega) (by omega)⟩
    have HC := hidI hC
    clear prz pfz HPZ HBZ HAZ HPR HPF HBW hC hB1
    go_wp2_with fail
    go_region
    rw [← hZ]
    clear hZ z0 z1 z2 y0 y1 y2 q0 q1 x0 x1 x3 x4
    have z0 := HC.out.ask.c0
    have z1 := HC.out.ask.c1
    have z2 := HC.out.ask.c2
    obtain ⟨q0, q1, -, -⟩ := box_cells HC.out.fault
    go_wp2_with fail
    exact bodyPost_ret (v := .tuple #[.agg #[.string ⟨#[]⟩, .string ⟨#[]⟩, .slice none 0 0], .agg #[.int .i64 x.1, .int .i64 (x.2 : Int)]]) (by simp [results, Try.results43, go_sem, z0, z1, z2, q0, q1]) rfl ⟨fun r h => (by rw [HF.out] at h; cases h), fun y h => (by rw [HF.out] at h; cases h; rfl), HB2.out⟩
  · have hlt' : ¬ (k6 : Int) < (s.size : Int) := by omega
    have HF : Hid (parse s = .ok (t.1, k.1, r.1)) := by rw [HPK.out, if_neg hlt]; rfl
    clear HPK hlt
    go_wp2_with fail
    clear c1
    refine (ok_any b s _ _ 0 0 w6 HR6.out).mono ?_
    rintro e wo ⟨rfl, hwo⟩
    rw [hwo]
    clear hwo
    have prz := HPR.out.away HA6.out (by omega)
    have pfz : w6.heap[w.heap.size + 1]? = some (.cells #[.int .i64 0, .int .i64 0] 30 (0, 0)) := (HA6.out.block _ (lt_of_block HPF.out) (by omega)).trans HPF.out
    have z0 := prz.c0
    have z1 := prz.c1
    have z2 := prz.c2
    have y0 := prz.f0
    have y1 := prz.f1
    have y2 := prz.f2
    obtain ⟨q0, q1, x0, x1⟩ := box_cells pfz
    have k0 := HP6.out.c0
    have k1 := HP6.out.c1
    have k2 := HP6.out.c2
    have hB6 : Below w.heap.size w w6 := HA6.out.below HBW.out (by omega) HBW.out.size
    have HFR : Hid (PicksAt (((((w6.setCell ⟨w.heap.size, 0, none⟩ (.string t.1)).setCell ⟨w.heap.size, 1, none⟩ (.string k.1)).setCell ⟨w.heap.size, 2, none⟩ (.slice a5 r.1.length c5)).setCell ⟨w.heap.size + 1, 0, none⟩ (.int .i64 0)).setCell ⟨w.heap.size + 1, 1, none⟩ (.int .i64 0)) 8 a5 r.1) := HF6.out _ fun k hk hnk => by
      have h1 : ¬ k < w4.heap.size := hnk
      rw [Below.heap_setCell _ _ _ _ (by show k ≠ w.heap.size + 1; omega), Below.heap_setCell _ _ _ _ (by show k ≠ w.heap.size + 1; omega), Below.heap_setCell _ _ _ _ (by show k ≠ w.heap.size; omega), Below.heap_setCell _ _ _ _ (by show k ≠ w.heap.size; omega), Below.heap_setCell _ _ _ _ (by show k ≠ w.heap.size; omega)]
    have HB2 : Hid (Below w.heap.size w (((((w6.setCell ⟨w.heap.size, 0, none⟩ (.string t.1)).setCell ⟨w.heap.size, 1, none⟩ (.string k.1)).setCell ⟨w.heap.size, 2, none⟩ (.slice a5 r.1.length c5)).setCell ⟨w.heap.size + 1, 0, none⟩ (.int .i64 0)).setCell ⟨w.heap.size + 1, 1, none⟩ (.int .i64 0))) :=
      ((((hB6.setCell (by show w.heap.size ≤ w.heap.size; omega) _).setCell (by show w.heap.size ≤ w.heap.size; omega) _).setCell (by show w.heap.size ≤ w.heap.size; omega) _).setCell (by show w.heap.size ≤ w.heap.size + 1; omega) _).setCell (by show w.heap.size ≤ w.heap.size + 1; omega) _
    clear prz pfz hB6 HP6 HA6 HF6 HR6
    go_wp2_with fail
    exact bodyPost_ret (v := .tuple #[.agg #[.string t.1, .string k.1, .slice a5 r.1.length c5], .agg #[.int .i64 0, .int .i64 0]]) (by simp [results, Try.results43, go_sem, z0, z1, z2, q0, q1]) rfl ⟨fun q h => (by rw [HF.out] at h; cases h; exact ⟨a5, c5, rfl, hc5, HFR.out⟩), fun y h => (by rw [HF.out] at h; cases h), HB2.out⟩
end Go.Proofs.Ytjjggefmmeminaa
