/-
  'x.Keys, y.Keys = q.Keys[:at], q.Keys[at:]' in stitchlaw5.ServeParts by itself.
-/
import Derived.Test.YtjjggefmmeminabSvPartReg
import Derived.Test.YtjjggefmmeminabSvAlive
import Derived.Test.YtjjggefmmeminabPieces
namespace Go.Proofs.Ytjjggefmmeminab
open Go.RowKit Go.Sort

set_option maxRecDepth 100000 in
set_option maxHeartbeats 8000000 in
theorem cut_region {Q : Exit → Act → World → Prop} {b4 bx by' m : Nat} {q : LReq} {w3 : World} (hne : bx ≠ by') (h4x : b4 ≠ bx) (h4y : b4 ≠ by') (hmk : m ≤ q.nk) (hkc : q.nk ≤ q.kcap)
    (HB4 : Hid (w3.heap[b4]? = some (.cells #[.int .i64 q.svc, .string q.type, .slice q.ka q.nk q.kcap, .slice q.fa q.nf q.fcap] 42 (0, 0)))) (HBX : Hid (w3.heap[bx]? = some (.cells #[.int .i64 q.svc, .string q.type, .slice q.ka q.nk q.kcap, .slice q.fa q.nf q.fcap] 42 (0, 0)))) (HBY : Hid (w3.heap[by']? = some (.cells #[.int .i64 q.svc, .string q.type, .slice q.ka q.nk q.kcap, .slice q.fa q.nf q.fcap] 42 (0, 0))))
    (v0 v1 v3 v5 v6 v7 v8 v11 v12 v13 v14 v15 v16 v17 v18 v19 v20 v21 v22 v23 v24 v25 v26 v27 v28 v29 v30 v31 v32 v33 v34 v35 v36 v37 v38 v39 v40 v41 v42 v43 v44 v45 v46 v47 v48 v49 v50 v51 v52 v53 v54 v55 v56 v57 v58 v59 v60 v61 v62 v63 v64 v65 v66 v67 v68 v69 v70 v71 v72 v73 v74 v75 v76 v77 v78 v79 v80 v81 v82 v83 v84 v85 : Value)
    (HEND : Hid (∀ (u43 u44 u45 u46 u47 u48 u49 u50 u51 u52 : Value) (wx : World), wx = ((w3.setCell ⟨bx, 2, none⟩ (.slice q.ka m q.kcap)).setCell ⟨by', 2, none⟩ (.slice (if q.kcap = m then q.ka else Option.map (fun x => x.add m) q.ka) (q.nk - m) (q.kcap - m))).drew → Q .normal ⟨#[v0, v1, .int .i64 (m : Int), v3, .pointer (some ⟨b4, 0, none⟩), v5, v6, v7, v8, .pointer (some ⟨bx, 0, none⟩), .pointer (some ⟨by', 0, none⟩), v11, v12, v13, v14, v15, v16, v17, v18, v19, v20, v21, v22, v23, v24, v25, v26, v27, v28, v29, v30, v31, v32, v33, v34, v35, v36, v37, v38, v39, v40, v41, v42, u43, u44, u45, u46, u47, u48, u49, u50, u51, u52, v53, v54, v55, v56, v57, v58, v59, v60, v61, v62, v63, v64, v65, v66, v67, v68, v69, v70, v71, v72, v73, v74, v75, v76, v77, v78, v79, v80, v81, v82, v83, v84, v85], []⟩ wx)) :
    Code.wp Try.prog (piece Try.f6 (regOf 9)) Q ⟨#[v0, v1, .int .i64 (m : Int), v3, .pointer (some ⟨b4, 0, none⟩), v5, v6, v7, v8, .pointer (some ⟨bx, 0, none⟩), .pointer (some ⟨by', 0, none⟩), v11, v12, v13, v14, v15, v16, v17, v18, v19, v20, v21, v22, v23, v24, v25, v26, v27, v28, v29, v30, v31, v32, v33, v34, v35, v36, v37, v38, v39, v40, v41, v42, v43, v44, v45, v46, v47, v48, v49, v50, v51, v52, v53, v54, v55, v56, v57, v58, v59, v60, v61, v62, v63, v64, v65, v66, v67, v68, v69, v70, v71, v72, v73, v74, v75, v76, v77, v78, v79, v80, v81, v82, v83, v84, v85], []⟩ w3 := by
  refine calm ?_
  conv => arg 2; whnf
  dsimp only
  obtain ⟨svc, type, ka, nk, kcap, K, fa, nf, fcap, F⟩ := q
  dsimp only at *
  have k2 : w3.cell? ⟨b4, 2, none⟩ = some (.slice ka nk kcap) := by simp [World.cell?, HB4.out]
  have x2 : w3.cell? ⟨bx, 2, none⟩ = some (.slice ka nk kcap) := by simp [World.cell?, HBX.out]
  have y2 : w3.cell? ⟨by', 2, none⟩ = some (.slice ka nk kcap) := by simp [World.cell?, HBY.out]
  have zx : w3.frozen? ⟨bx, 2, none⟩ = false := by simp [World.frozen?, HBX.out]
  have zy : w3.frozen? ⟨by', 2, none⟩ = false := by simp [World.frozen?, HBY.out]
  have hm0 : (0 : Int) ≤ (m : Int) := by omega
  have hm1 : (m : Int) ≤ (nk : Int) := by omega
  have hm2 : (m : Int) ≤ (kcap : Int) := by omega
  have hm3 : (nk : Int) ≤ (kcap : Int) := by omega
  clear HB4 HBX HBY
  by_cases hcm : kcap = m
  · subst hcm
    have h0 : nk - kcap = 0 := by omega
    go_region_law (fail)
    all_goals (
      try go_wp2_with fail
      refine HEND.out _ _ _ _ _ _ _ _ _ _ _ ?_
      simp [h0])
  · go_region_law (fail)
    all_goals (
      try go_wp2_with fail
      refine HEND.out _ _ _ _ _ _ _ _ _ _ _ ?_
      first | rfl | simp [hcm])

end Go.Proofs.Ytjjggefmmeminab
