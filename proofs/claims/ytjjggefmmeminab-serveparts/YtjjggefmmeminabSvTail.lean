/-
  stitchlaw5.ServeParts behind the cut: the two parts are asked for, and put together: they are what was asked for.
-/
import Derived.Test.YtjjggefmmeminabSvPartReg
import Derived.Test.YtjjggefmmeminabSvAlive
import Derived.Test.YtjjggefmmeminabPieces
namespace Go.Proofs.Ytjjggefmmeminab
open Go.RowKit Go.Sort

theorem ValRows.rebase {w : World} {B base : Nat} {v : Value} {L : List LVal} {kv : Nat → Value} (h : ValRows w B base v L kv) (hb : base ≤ w.heap.size) : ValRows w B w.heap.size v L kv := ⟨h.row, fun i hi w' hS => h.keys i hi w' (steady_new hS.below hb), h.good⟩
theorem ValRows.oneCell {w : World} {B base : Nat} {v : Value} {L : List LVal} {kv : Nat → Value} (h : ValRows w B base v L kv) : v.oneCell' = true := by
  obtain ⟨a, c, e, -⟩ := h.row.slice
  rw [e]; rfl
theorem wrongQ_of {n c t : Nat} {V : Nat → SServ} {q : LReq} (hc : q.svc = (c : Int)) (h : c < n) (hf : find (V c).nt (V c).T q.type = (t : Int)) (he : ∀ i, i < q.nf → fieldE ((V c).T t).nf ((V c).T t).F q.F i = 0) (hk : ∀ i, i < q.nk → stood q.K i = false) : wrongQ n V q = 0 := by
  rw [wrongQ_keys hc h hf (by unfold fieldsE; rw [fault_none he]), twice_false.2 hk]; rfl
def headQ (q : LReq) (m : Nat) : LReq := ⟨q.svc, q.type, q.ka, m, q.kcap, q.K, q.fa, q.nf, q.fcap, q.F⟩
def tailQ (q : LReq) (m : Nat) : LReq := ⟨q.svc, q.type, if q.kcap = m then q.ka else Option.map (fun x => x.add m) q.ka, q.nk - m, q.kcap - m, fun i => q.K (m + i), q.fa, q.nf, q.fcap, q.F⟩
theorem headQ_ok {w : World} {q : LReq} (h : ReqOk w q) {m : Nat} (hm : m ≤ q.nk) : ReqOk w (headQ q m) :=
  ⟨⟨Nat.le_trans hm h.keys.1, fun i hi => h.keys.2 i (Nat.lt_of_lt_of_le hi hm)⟩, h.fields, h.svc, Nat.le_trans hm h.kcap, h.fcap, h.small⟩
theorem tailQ_ok {w : World} {q : LReq} (h : ReqOk w q) {m : Nat} (hm : m ≤ q.nk) : ReqOk w (tailQ q m) := by
  refine ⟨⟨Nat.le_trans (Nat.sub_le _ _) h.keys.1, fun i hi => ?_⟩, h.fields, h.svc, Nat.sub_le_sub_right h.kcap m, h.fcap, h.small⟩
  have hi' : i < q.nk - m := hi
  obtain ⟨b, o, e, hc, hs⟩ := h.keys.2 (m + i) (by omega)
  have hk := h.kcap
  refine ⟨b, o + m, ?_, ?_, hs⟩
  · show (if q.kcap = m then q.ka else Option.map (fun x => x.add m) q.ka) = _
    rw [if_neg (by omega), e]
    show some ((⟨b, o, none⟩ : Addr).add m) = _
    rw [WideShapes.add_plain]
  · show w.cell? ⟨b, o + m + i, none⟩ = some (.string (q.K (m + i)))
    rw [Nat.add_assoc]; exact hc
theorem headQ_right {n : Nat} {V : Nat → SServ} {q : LReq} (h : wrongQ n V q = 0) {m : Nat} (hm : m ≤ q.nk) : wrongQ n V (headQ q m) = 0 := by
  obtain ⟨c, t, hc, hcn, -, hf, hfe, hk⟩ := wrongQ_zero h
  exact wrongQ_of (q := headQ q m) hc hcn hf hfe (fun i hi => hk i (Nat.lt_of_lt_of_le hi hm))
theorem tailQ_right {n : Nat} {V : Nat → SServ} {q : LReq} (h : wrongQ n V q = 0) (m : Nat) : wrongQ n V (tailQ q m) = 0 := by
  obtain ⟨c, t, hc, hcn, -, hf, hfe, hk⟩ := wrongQ_zero h
  refine wrongQ_of (q := tailQ q m) hc hcn hf hfe (fun i hi => ?_)
  have hi' : i < q.nk - m := hi
  refine stood_false.2 fun j hj => ?_
  exact stood_false.1 (hk (m + i) (by omega)) (m + j) (by omega)

set_option maxRecDepth 100000 in
set_option maxHeartbeats 8000000 in
theorem parts_tail (a : Option Addr) (n cap : Nat) (V : Nat → SServ) (q : LReq) (w w1 Y w5 : World) (m b7 bx by' rc vc : Nat) (ra va : Option Addr)
    (HC1 : Hid (∀ W, Below w.heap.size w W → ∀ q', ReqOk w q' → q'.nk * 16 ≤ 140737488355328 → ∀ base, base ≤ W.heap.size → Calls Try.prog 18 #[.slice a n cap, reqV q'] W fun e w' => ∃ fv vv, e = .returned (.tuple #[.agg #[fv, vv], .int .i64 (wrongQ n V q')]) ∧ Replies w' W.heap.size base fv vv (if wrongQ n V q' = 0 then q'.nk else 0) (fun j => foundI (V q'.svc.toNat) q'.type (q'.K j)) (fun j => valsL (thingOf (V q'.svc.toNat) q'.type (q'.K j)) q'.nf q'.F) ∧ Below W.heap.size W w'))
    (HQ0 : Hid (ReqOk w q)) (hqk : q.nk * 16 ≤ 140737488355328 - 4096) (HWR : Hid (wrongQ n V q = 0)) (hmn : m ≤ q.nk) (HBY : Hid (Below w.heap.size w Y)) (HZ : Hid (w1.heap.size ≤ Y.heap.size))
    (HRY : Hid (Replies Y w1.heap.size w1.heap.size (.slice ra q.nk rc) (.slice va q.nk vc) q.nk (fun j => foundI (V q.svc.toNat) q.type (q.K j)) (fun j => valsL (thingOf (V q.svc.toNat) q.type (q.K j)) q.nf q.F)))
    (HB7 : Hid (Y.heap[b7]? = some (.cells #[.slice ra q.nk rc, .slice va q.nk vc] 46 (0, 0)))) (hB5 : Below Y.heap.size Y w5)
    (hbx5 : w5.heap[bx]? = some (.cells #[.int .i64 q.svc, .string q.type, .slice q.ka m q.kcap, .slice q.fa q.nf q.fcap] 42 (0, 0))) (hby5 : w5.heap[by']? = some (.cells #[.int .i64 q.svc, .string q.type, .slice (if q.kcap = m then q.ka else Option.map (fun x => x.add m) q.ka) (q.nk - m) (q.kcap - m), .slice q.fa q.nf q.fcap] 42 (0, 0)))
    (v1 v2 v3 v4 v5 v6 v8 v11 v12 v13 v14 v15 v16 v17 v18 v19 v20 v21 v22 v23 v24 v25 v26 v27 v28 v29 v30 v31 v32 v33 v34 v35 v36 v37 v38 v39 v40 v41 v42 v43 v44 v45 v46 v47 v48 v49 v50 v51 v52 v53 v54 v55 v56 v57 v58 v59 v60 v61 v62 v63 v64 v65 v66 v67 v68 v69 v70 v71 v72 v73 v74 v75 v76 v77 v78 v79 v80 v81 v82 v83 v84 v85 : Value) :
    Code.wp Try.prog (piece Try.f6 (seqOf 10)) (bodyPost Try.prog Try.f6 fun e w' => e = .returned (.bool true) ∧ Below w.heap.size w w') ⟨#[.slice a n cap, v1, v2, v3, v4, v5, v6, .pointer (some ⟨b7, 0, none⟩), v8, .pointer (some ⟨bx, 0, none⟩), .pointer (some ⟨by', 0, none⟩), v11, v12, v13, v14, v15, v16, v17, v18, v19, v20, v21, v22, v23, v24, v25, v26, v27, v28, v29, v30, v31, v32, v33, v34, v35, v36, v37, v38, v39, v40, v41, v42, v43, v44, v45, v46, v47, v48, v49, v50, v51, v52, v53, v54, v55, v56, v57, v58, v59, v60, v61, v62, v63, v64, v65, v66, v67, v68, v69, v70, v71, v72, v73, v74, v75, v76, v77, v78, v79, v80, v81, v82, v83, v84, v85], []⟩ w5 := by
  obtain ⟨iB, bi, bz0, bz1, bz2⟩ := info_parts' Try.info4
  obtain ⟨iV, vi, vz0, vz1, vz2⟩ := info_parts' Try.info54
  obtain ⟨ta, hta⟩ : ∃ ta, ta = (if q.kcap = m then q.ka else Option.map (fun x => x.add m) q.ka) := ⟨_, rfl⟩
  rw [← hta] at hby5
  have HCH : Hid (∀ W, Below w.heap.size w W → ∀ base, base ≤ W.heap.size → Calls Try.prog 18 #[.slice a n cap, .agg #[.int .i64 q.svc, .string q.type, .slice q.ka m q.kcap, .slice q.fa q.nf q.fcap]] W fun e w' => ∃ fv vv, e = .returned (.tuple #[.agg #[fv, vv], .int .i64 0]) ∧ Replies w' W.heap.size base fv vv m (fun j => foundI (V q.svc.toNat) q.type (q.K j)) (fun j => valsL (thingOf (V q.svc.toNat) q.type (q.K j)) q.nf q.F) ∧ Below W.heap.size W w') := Hid.intro fun W hB base hb => by
    have h := HC1.out W hB (headQ q m) (headQ_ok HQ0.out hmn) (show m * 16 ≤ 140737488355328 by omega) base hb
    rw [headQ_right HWR.out hmn, if_pos rfl] at h
    exact h
  have HCT : Hid (∀ W, Below w.heap.size w W → ∀ base, base ≤ W.heap.size → Calls Try.prog 18 #[.slice a n cap, .agg #[.int .i64 q.svc, .string q.type, .slice ta (q.nk - m) (q.kcap - m), .slice q.fa q.nf q.fcap]] W fun e w' => ∃ fv vv, e = .returned (.tuple #[.agg #[fv, vv], .int .i64 0]) ∧ Replies w' W.heap.size base fv vv (q.nk - m) (fun j => foundI (V q.svc.toNat) q.type (q.K (m + j))) (fun j => valsL (thingOf (V q.svc.toNat) q.type (q.K (m + j))) q.nf q.F) ∧ Below W.heap.size W w') := Hid.intro fun W hB base hb => by
    have h := HC1.out W hB (tailQ q m) (tailQ_ok HQ0.out hmn) (show (q.nk - m) * 16 ≤ 140737488355328 by omega) base hb
    rw [tailQ_right HWR.out m, if_pos rfl] at h
    rw [hta]
    exact h
  clear hta HC1 HWR
  conv => arg 2; whnf
  dsimp only
  obtain ⟨x0, x1, x2, x3⟩ : w5.cell? ⟨bx, 0, none⟩ = some (.int .i64 q.svc) ∧ w5.cell? ⟨bx, 1, none⟩ = some (.string q.type) ∧ w5.cell? ⟨bx, 2, none⟩ = some (.slice q.ka m q.kcap) ∧ w5.cell? ⟨bx, 3, none⟩ = some (.slice q.fa q.nf q.fcap) := by simp [World.cell?, hbx5]
  have hBw5 : Below w.heap.size w w5 := HBY.out.trans (hB5.mono HBY.out.size)
  have hcl := HCH.out w5 hBw5 Y.heap.size hB5.size
  have HB5 := Hid.intro hB5
  have HBW5 := Hid.intro hBw5
  have HBY5 := Hid.intro hby5
  clear hB5 hBw5 hby5 hbx5
  go_wp2_with fail
  refine hcl.mono ?_
  clear hcl
  rintro e w6 ⟨fv1, vv1, rfl, hR1, hw6⟩
  obtain ⟨f1, c1, v1, d1, rfl, rfl, -, -⟩ := hR1.slices
  generalize hY6 : w6.alloc (Obj.cells #[.slice f1 m c1, .slice v1 m d1] 46) = Y6
  have hb6 : Below w6.heap.size w6 Y6 := by rw [← hY6]; exact below1 _ _
  have h11 : Y6.heap[w6.heap.size]? = some (.cells #[.slice f1 m c1, .slice v1 m d1] 46 (0, 0)) := by rw [← hY6]; exact heap_alloc_new _ _
  have hB56 := hw6.trans (hb6.mono hw6.size)
  have hBw6 : Below w.heap.size w Y6 := HBW5.out.trans (hB56.mono HBW5.out.size)
  have hby6 := (hB56.block _ (lt_of_block HBY5.out)).trans HBY5.out
  obtain ⟨y0, y1, y2, y3⟩ : Y6.cell? ⟨by', 0, none⟩ = some (.int .i64 q.svc) ∧ Y6.cell? ⟨by', 1, none⟩ = some (.string q.type) ∧ Y6.cell? ⟨by', 2, none⟩ = some (.slice ta (q.nk - m) (q.kcap - m)) ∧ Y6.cell? ⟨by', 3, none⟩ = some (.slice q.fa q.nf q.fcap) := by simp [World.cell?, hby6]
  have hzY5 : Y.heap.size ≤ w5.heap.size := HB5.out.size
  have HR1 := Hid.intro (hR1.kept hb6 (Nat.le_trans hzY5 hw6.size))
  have hcl := HCT.out Y6 hBw6 Y.heap.size (Nat.le_trans hzY5 hB56.size)
  have HB56 := Hid.intro hB56
  have HBW6 := Hid.intro hBw6
  have H11 := Hid.intro h11
  clear hR1 hw6 hb6 hB56 hBw6 hby6 h11 x0 x1 x2 x3 HBY5
  go_wp2_with fail
  clear hY6
  generalize w6.heap.size = b11 at *
  refine hcl.mono ?_
  clear hcl
  rintro e w7 ⟨fv2, vv2, rfl, hR2, hw7⟩
  obtain ⟨f2, c2, v2, d2, rfl, rfl, -, -⟩ := hR2.slices
  generalize hY7 : w7.alloc (Obj.cells #[.slice f2 (q.nk - m) c2, .slice v2 (q.nk - m) d2] 46) = Y7
  have hb7' : Below w7.heap.size w7 Y7 := by rw [← hY7]; exact below1 _ _
  have h12 : Y7.heap[w7.heap.size]? = some (.cells #[.slice f2 (q.nk - m) c2, .slice v2 (q.nk - m) d2] 46 (0, 0)) := by rw [← hY7]; exact heap_alloc_new _ _
  have hB67 := hw7.trans (hb7'.mono hw7.size)
  have hz56 : w5.heap.size ≤ Y6.heap.size := HB56.out.size
  have hz67 : Y6.heap.size ≤ Y7.heap.size := hB67.size
  have HR2 := Hid.intro (hR2.kept hb7' (by have := hw7.size; omega))
  have HB67 := Hid.intro hB67
  have HBW7 : Hid (Below w.heap.size w Y7) := HBW6.out.trans (hB67.mono HBW6.out.size)
  have H12 := Hid.intro h12
  clear hR2 hw7 hb7' hB67 h12 y0 y1 y2 y3
  go_upto_region 12 with fail
  clear hY7
  generalize w7.heap.size = b12 at *
  have hR1' := HR1.out.kept HB67.out (by omega)
  have HR2o := HR2.out
  obtain ⟨sv1, hV1, hr1⟩ := hR1'.vals
  obtain ⟨sv2, hV2, hr2⟩ := HR2o.vals
  have hB57 : Below w5.heap.size w5 Y7 := HB56.out.trans (HB67.out.mono hz56)
  have hBY7 : Below Y.heap.size Y Y7 := HB5.out.trans (hB57.mono hzY5)
  have hN : m + (q.nk - m) = q.nk := by omega
  have hlt1 : ∀ b, (Value.slice f1 m c1).ownBlock = some b → b < Y6.heap.size := fun b hb => (HR1.out.found.lt hb).2
  obtain ⟨sv1', hV1', -⟩ := HR1.out.vals
  have hlt2 : ∀ b, (Value.slice v1 m d1).ownBlock = some b → b < Y6.heap.size := fun b hb => (hV1'.lt hb).2
  have H7 := (hBY7.block _ (lt_of_block HB7.out)).trans HB7.out
  have H11' := (HB67.out.block _ (lt_of_block H11.out)).trans H11.out
  refine parts_region bi bz0 bz1 bz2 vi vz0 vz1 vz2 (B1 := w5.heap.size) (B2 := Y6.heap.size) (n1 := m) (n2 := q.nk - m) (by kernel_rfl) (by omega) hz56 hz67 hlt1 hlt2 rfl rfl rfl rfl rfl H7 H11' H12.out hR1'.found HR2o.found hV1 hV2 (fun j hj => ⟨rfl, (hr2 j hj).elim fun _ h => h.oneCell⟩) ?_ ?_
  · intro wz fv vv hS hF hVv
    rw [hN] at hF hVv
    have hBz : Below Y.heap.size Y wz := hBY7.trans (hS.below.mono hzY5)
    have hSA : Steady tsA Y.heap.size Y7 wz := (hS.mono tsB_A).lower hzY5
    have hzz : Y.heap.size ≤ wz.heap.size := hBz.size
    refine sameReply_any _ _ _ _ _ _ q.nk _ _ wz (HRY.out.kept hBz HZ.out) (B' := w5.heap.size) (base' := wz.heap.size) ⟨hF.congr fun j hj => ?_, ⟨_, hVv, fun j hj => ?_⟩, fun j hj => ?_⟩ (Nat.le_trans HZ.out hzz) (Nat.le_refl _) HQ0.out.keys.1
    · by_cases h1 : j < m * 1
      · simp only [if_pos h1]
      · simp only [if_neg h1]
        rw [show m + (j - m * 1) = j by omega]
    · by_cases h1 : j < m * 1
      · obtain ⟨kv, hk⟩ := hr1 j (by omega)
        simp only [if_pos h1]
        exact ⟨kv, (hk.steady hSA).rebase hzz⟩
      · obtain ⟨kv, hk⟩ := hr2 (j - m * 1) (by omega)
        simp only [if_neg h1]
        have e : m + (j - m * 1) = j := by omega
        simp only [e] at hk
        exact ⟨kv, ((hk.steady hSA).lower hz56).rebase hzz⟩
    · exact HRY.out.few j hj
  · intro s w' h6 hbl
    have HE : Hid (Below w.heap.size w w') := HBW7.out.trans (hbl.mono HBW5.out.size)
    simp only [putAll, Act.put, List.setIfInBounds_toArray, List.set_cons_succ, List.set_cons_zero]
    rw [h6]
    clear h6 hbl
    go_wp2_with fail
    go_ret
    exact ⟨rfl, HE.out⟩
end Go.Proofs.Ytjjggefmmeminab
