/-
  'x, y := q, q' in stitchlaw5.ServeParts by itself.
-/
import Derived.Test.YtjjggefmmeminabSvPartReg
import Derived.Test.YtjjggefmmeminabSvAlive
import Derived.Test.YtjjggefmmeminabPieces
namespace Go.Proofs.Ytjjggefmmeminab
open Go.RowKit Go.Sort

set_option maxRecDepth 100000 in
set_option maxHeartbeats 8000000 in
theorem copy_region {Q : Exit → Act → World → Prop} {b4 : Nat} {q : LReq} {Y : World} (HB4 : Hid (Y.heap[b4]? = some (.cells #[.int .i64 q.svc, .string q.type, .slice q.ka q.nk q.kcap, .slice q.fa q.nf q.fcap] 42 (0, 0))))
    (v0 v1 v2 v3 v5 v6 v7 v8 v9 v10 v11 v12 v13 v14 v15 v16 v17 v18 v19 v20 v21 v22 v23 v24 v25 v26 v27 v28 v29 v30 v31 v32 v33 v34 v35 v36 v37 v38 v39 v40 v41 v42 v43 v44 v45 v46 v47 v48 v49 v50 v51 v52 v53 v54 v55 v56 v57 v58 v59 v60 v61 v62 v63 v64 v65 v66 v67 v68 v69 v70 v71 v72 v73 v74 v75 v76 v77 v78 v79 v80 v81 v82 v83 v84 v85 : Value)
    (HEND : Hid (∀ (u41 u42 : Value) (bx by' : Nat) (wx : World), bx ≠ by' → Y.heap.size ≤ bx → Y.heap.size ≤ by' → wx.heap[bx]? = some (.cells #[.int .i64 q.svc, .string q.type, .slice q.ka q.nk q.kcap, .slice q.fa q.nf q.fcap] 42 (0, 0)) → wx.heap[by']? = some (.cells #[.int .i64 q.svc, .string q.type, .slice q.ka q.nk q.kcap, .slice q.fa q.nf q.fcap] 42 (0, 0)) → Below Y.heap.size Y wx → Q .normal ⟨#[v0, v1, v2, v3, .pointer (some ⟨b4, 0, none⟩), v5, v6, v7, v8, .pointer (some ⟨bx, 0, none⟩), .pointer (some ⟨by', 0, none⟩), v11, v12, v13, v14, v15, v16, v17, v18, v19, v20, v21, v22, v23, v24, v25, v26, v27, v28, v29, v30, v31, v32, v33, v34, v35, v36, v37, v38, v39, v40, u41, u42, v43, v44, v45, v46, v47, v48, v49, v50, v51, v52, v53, v54, v55, v56, v57, v58, v59, v60, v61, v62, v63, v64, v65, v66, v67, v68, v69, v70, v71, v72, v73, v74, v75, v76, v77, v78, v79, v80, v81, v82, v83, v84, v85], []⟩ wx)) :
    Code.wp Try.prog (piece Try.f6 (regOf 8)) Q ⟨#[v0, v1, v2, v3, .pointer (some ⟨b4, 0, none⟩), v5, v6, v7, v8, v9, v10, v11, v12, v13, v14, v15, v16, v17, v18, v19, v20, v21, v22, v23, v24, v25, v26, v27, v28, v29, v30, v31, v32, v33, v34, v35, v36, v37, v38, v39, v40, v41, v42, v43, v44, v45, v46, v47, v48, v49, v50, v51, v52, v53, v54, v55, v56, v57, v58, v59, v60, v61, v62, v63, v64, v65, v66, v67, v68, v69, v70, v71, v72, v73, v74, v75, v76, v77, v78, v79, v80, v81, v82, v83, v84, v85], []⟩ Y := by
  refine calm ?_
  conv => arg 2; whnf
  dsimp only
  obtain ⟨k0, k1, k2, k3⟩ : Y.cell? ⟨b4, 0, none⟩ = some (.int .i64 q.svc) ∧ Y.cell? ⟨b4, 1, none⟩ = some (.string q.type) ∧ Y.cell? ⟨b4, 2, none⟩ = some (.slice q.ka q.nk q.kcap) ∧ Y.cell? ⟨b4, 3, none⟩ = some (.slice q.fa q.nf q.fcap) := by simp [World.cell?, HB4.out]
  have hlq : b4 < Y.heap.size := lt_of_block HB4.out
  have HD : Hid ((((Y.alloc (Obj.cells #[.int .i64 q.svc, .string q.type, .slice q.ka q.nk q.kcap, .slice q.fa q.nf q.fcap] 42)).alloc (Obj.cells #[.int .i64 q.svc, .string q.type, .slice q.ka q.nk q.kcap, .slice q.fa q.nf q.fcap] 42)).drew.heap[Y.heap.size]? = some (.cells #[.int .i64 q.svc, .string q.type, .slice q.ka q.nk q.kcap, .slice q.fa q.nf q.fcap] 42 (0, 0))) ∧ (((Y.alloc (Obj.cells #[.int .i64 q.svc, .string q.type, .slice q.ka q.nk q.kcap, .slice q.fa q.nf q.fcap] 42)).alloc (Obj.cells #[.int .i64 q.svc, .string q.type, .slice q.ka q.nk q.kcap, .slice q.fa q.nf q.fcap] 42)).drew.heap[Y.heap.size + 1]? = some (.cells #[.int .i64 q.svc, .string q.type, .slice q.ka q.nk q.kcap, .slice q.fa q.nf q.fcap] 42 (0, 0))) ∧ Below Y.heap.size Y ((Y.alloc (Obj.cells #[.int .i64 q.svc, .string q.type, .slice q.ka q.nk q.kcap, .slice q.fa q.nf q.fcap] 42)).alloc (Obj.cells #[.int .i64 q.svc, .string q.type, .slice q.ka q.nk q.kcap, .slice q.fa q.nf q.fcap] 42)).drew) := by
    refine ⟨?_, ?_, (below2 _ _ _).drew⟩
    · exact (Below.heap_alloc _ _ _ (by simp)).trans (heap_alloc_new _ _)
    · exact (show Y.heap.size + 1 = (Y.alloc (Obj.cells #[.int .i64 q.svc, .string q.type, .slice q.ka q.nk q.kcap, .slice q.fa q.nf q.fcap] 42)).heap.size by simp) ▸ heap_alloc_new (Y.alloc (Obj.cells #[.int .i64 q.svc, .string q.type, .slice q.ka q.nk q.kcap, .slice q.fa q.nf q.fcap] 42)) _
  go_region_law (fail)
  all_goals (
    try go_wp2_with fail
    first
      | exact HEND.out _ _ Y.heap.size (Y.heap.size + 1) _ (by omega) (Nat.le_refl _) (by omega) HD.out.1 HD.out.2.1 HD.out.2.2
      | exact HEND.out _ _ (Y.heap.size + 1) Y.heap.size _ (by omega) (by omega) (Nat.le_refl _) HD.out.2.1 HD.out.1 HD.out.2.2)

end Go.Proofs.Ytjjggefmmeminab
