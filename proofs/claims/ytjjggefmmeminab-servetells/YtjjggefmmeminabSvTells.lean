/-
  The contract of stitchlaw5.ServeTells: it answers true.
-/
import Derived.Test.YtjjggefmmeminabRvAnswer
import Derived.Test.YtjjggefmmeminabSvSame
namespace Go.Proofs.Ytjjggefmmeminab
open Go.RowKit Go.Sort

set_option maxRecDepth 100000 in
set_option maxHeartbeats 4000000 in
theorem serveTells_any (a : Option Addr) (n cap : Nat) (V : Nat → SServ) (q : LReq) (w : World) (hV : SServsAt w a n V) (hL : ∀ i, i < n → LightS (V i)) (hq : ReqOk w q) (hqk : q.nk * 16 ≤ 140737488355328) :
    Calls Try.prog 5 #[.slice a n cap, reqV q] w fun e w' => e = .returned (.bool true) ∧ Below w.heap.size w w' := by
  have hc1 := fun W (hB : Below w.heap.size w W) => answer_any a n cap V q W (hV.kept hB) hL (hq.kept hB) hqk
  have hc2 := fun W (hB : Below w.heap.size w W) => refAnswer_any a n cap V q W (hV.kept hB) hL (hq.kept hB) hqk
  have hc3 := fun W (hB : Below w.heap.size w W) => swrong_any a n cap V q W (hV.kept hB) (hq.kept hB)
  have hc4 := fun W (hB : Below w.heap.size w W) => wrongRequest_any a n cap V q W (hV.kept hB) (hq.kept hB)
  have hN : (if wrongQ n V q = 0 then q.nk else 0) ≤ maxLen := by
    split
    · exact hq.keys.1
    · exact Nat.zero_le _
  unfold reqV at hc1 hc2 hc3 hc4
  unfold reqV
  generalize hW : w.alloc (Obj.cells #[.int .i64 q.svc, .string q.type, .slice q.ka q.nk q.kcap, .slice q.fa q.nf q.fcap] 42) = W
  have hB : Below w.heap.size w W := by rw [← hW]; exact below1 _ _
  have k0 : W.cell? ⟨w.heap.size, 0, none⟩ = some (.int .i64 q.svc) := by rw [← hW, World.cell?_alloc_at _ _ _ _ rfl]; rfl
  have k1 : W.cell? ⟨w.heap.size, 1, none⟩ = some (.string q.type) := by rw [← hW, World.cell?_alloc_at _ _ _ _ rfl]; rfl
  have k2 : W.cell? ⟨w.heap.size, 2, none⟩ = some (.slice q.ka q.nk q.kcap) := by rw [← hW, World.cell?_alloc_at _ _ _ _ rfl]; rfl
  have k3 : W.cell? ⟨w.heap.size, 3, none⟩ = some (.slice q.fa q.nf q.fcap) := by rw [← hW, World.cell?_alloc_at _ _ _ _ rfl]; rfl
  have hcl := hc1 W hB
  have HB := Hid.intro hB
  have H2 := Hid.intro hc2
  have H3 := Hid.intro hc3
  have H4 := Hid.intro hc4
  have HN := Hid.intro hN
  clear hc1 hc2 hc3 hc4 hV hL hq hB hN
  generalize (if wrongQ n V q = 0 then q.nk else 0) = N at *
  go_enter Try.func5, Try.ntmps5
  go_wp2_with fail
  clear hW
  refine hcl.mono ?_
  clear hcl
  rintro e w1 ⟨fv, vv, rfl, hR, hw1⟩
  obtain ⟨ra, rc, va, vc, rfl, rfl, -, -⟩ := hR.slices
  generalize hY1 : w1.alloc (Obj.cells #[.slice ra N rc, .slice va N vc] 46) = Y1
  have hb1 : Below w1.heap.size w1 Y1 := by rw [← hY1]; exact below1 _ _
  have d0 : Y1.cell? ⟨w1.heap.size, 0, none⟩ = some (.slice ra N rc) := by rw [← hY1, World.cell?_alloc_at _ _ _ _ rfl]; rfl
  have d1 : Y1.cell? ⟨w1.heap.size, 1, none⟩ = some (.slice va N vc) := by rw [← hY1, World.cell?_alloc_at _ _ _ _ rfl]; rfl
  have hWY := hw1.trans (hb1.mono hw1.size)
  have HBY : Hid (Below w.heap.size w Y1) := HB.out.trans (hWY.mono HB.out.size)
  have k0 := keptCell hWY k0
  have k1 := keptCell hWY k1
  have k2 := keptCell hWY k2
  have k3 := keptCell hWY k3
  have HR1 := Hid.intro (hR.kept hb1 hw1.size)
  have HZ1 : Hid (W.heap.size ≤ Y1.heap.size) := hWY.size
  have hcl := H2.out Y1 HBY.out
  clear hR hw1 hb1 hWY H2 HB
  go_wp2_with fail
  clear hY1
  refine hcl.mono ?_
  clear hcl
  rintro e w2 ⟨fv', vv', rfl, hR', hw2⟩
  obtain ⟨ra', rc', va', vc', rfl, rfl, -, -⟩ := hR'.slices
  generalize hY2 : w2.alloc (Obj.cells #[.slice ra' N rc', .slice va' N vc'] 46) = Y2
  have hb2 : Below w2.heap.size w2 Y2 := by rw [← hY2]; exact below1 _ _
  have e0 : Y2.cell? ⟨w2.heap.size, 0, none⟩ = some (.slice ra' N rc') := by rw [← hY2, World.cell?_alloc_at _ _ _ _ rfl]; rfl
  have e1 : Y2.cell? ⟨w2.heap.size, 1, none⟩ = some (.slice va' N vc') := by rw [← hY2, World.cell?_alloc_at _ _ _ _ rfl]; rfl
  have hYY := hw2.trans (hb2.mono hw2.size)
  have hB2 : Below w.heap.size w Y2 := HBY.out.trans (hYY.mono HBY.out.size)
  have k0 := cell_regrown (keptCell hYY k0)
  have k1 := cell_regrown (keptCell hYY k1)
  have k2 := cell_regrown (keptCell hYY k2)
  have k3 := cell_regrown (keptCell hYY k3)
  have d0 := cell_regrown (keptCell hYY d0)
  have d1 := cell_regrown (keptCell hYY d1)
  have e0 := cell_regrown e0
  have e1 := cell_regrown e1
  have hR2 := HR1.out.kept hYY HZ1.out
  have hR2' := hR'.kept hb2 hw2.size
  have cW : ∀ d os, Calls Try.prog 20 #[.slice a n cap, .agg #[.int .i64 q.svc, .string q.type, .slice q.ka q.nk q.kcap, .slice q.fa q.nf q.fcap]] (grow (redrawn Y2 d) os) fun e w'' => e = .returned (.int .i64 (wrongQ n V q)) ∧ ∃ p : Regrown, w'' = grow (redrawn Y2 p.d) p.os := fun d os => Calls.regrown_of (H3.out _ (hB2.trans ((below_regrown Y2 d os).mono hB2.size)))
  have cR : ∀ d os, Calls Try.prog 21 #[.slice a n cap, .agg #[.int .i64 q.svc, .string q.type, .slice q.ka q.nk q.kcap, .slice q.fa q.nf q.fcap]] (grow (redrawn Y2 d) os) fun e w'' => e = .returned (.int .i64 (wrongQ n V q)) ∧ ∃ p : Regrown, w'' = grow (redrawn Y2 p.d) p.os := fun d os => Calls.regrown_of (H4.out _ (hB2.trans ((below_regrown Y2 d os).mono hB2.size)))
  have hz1 : W.heap.size ≤ Y2.heap.size := Nat.le_trans HZ1.out hYY.size
  have hz2 : Y1.heap.size ≤ Y2.heap.size := hYY.size
  have cS : ∀ d os, Calls Try.prog 22 #[.agg #[.slice ra N rc, .slice va N vc], .agg #[.slice ra' N rc', .slice va' N vc']] (grow (redrawn Y2 d) os) fun e w'' => e = .returned (.bool true) ∧ ∃ p : Regrown, w'' = grow (redrawn Y2 p.d) p.os := fun d os =>
    Calls.regrown_of (sameReply_any _ _ _ _ _ _ _ _ N _ _ _ (hR2.kept (below_regrown Y2 d os) hz1) (hR2'.kept (below_regrown Y2 d os) hz2) (Nat.le_trans hz1 (below_regrown Y2 d os).size) (Nat.le_trans hz2 (below_regrown Y2 d os).size) HN.out)
  have HB2 := Hid.intro hB2
  clear hR' hw2 hb2 hYY hB2 hR2 hR2' HR1 HBY HZ1 H3 H4 hz1 hz2
  go_wp2_with fail
  clear hY2
  refine wp_region_quiet_below (by kernel_rfl) (by kernel_rfl) ?_
  repeat (go_big_quiet_step (first | exact cW _ _ | exact cR _ _ | exact cS _ _))
  refine wpQuiet_nil ?_
  intro _ hw'
  obtain ⟨⟨dq, osq⟩, hw''⟩ := hw'
  subst hw''
  have HBQ : Hid (Below w.heap.size w (grow (redrawn Y2 dq) osq)) := HB2.out.trans ((below_regrown Y2 dq osq).mono HB2.out.size)
  go_wp2_with fail
  go_ret
  exact ⟨rfl, HBQ.out⟩
end Go.Proofs.Ytjjggefmmeminab
