import Derived.Test.YtjjggefmmeminabGreatJRm
import Derived.Deep.CutBlock
/-
  The fields' loop of stitchref1.All by itself: it ends, or a name is there already.
-/
namespace Go.Proofs.YtjjggefmmeminabGreat
open Go.RowKit Go.Sort Go.PlainAid

set_option maxRecDepth 100000 in
set_option maxHeartbeats 80000000 in
theorem fields_block {Q : Exit → Act → World → Prop} {rb bs gj t m vc k3 Cp : Nat} {kk : Int} {sv : LServ} {S : PSeen} {a2 a3 A : Option Addr} {L1 : List PPart} {Y2 : Nat → Prop} {C w0 : World} {rv0 : Nat → Nat → Value}
    (HTY : Hid (∀ w', Keep Y2 C w' → TyAt w' bs sv a2 a3 m A Cp S)) (HGS : Hid (GoodS S)) (HKW : Hid ((Lit.int .i64 kk).wf = true)) (HY2C : Hid (∀ b, Y2 b → b < C.heap.size))
    (hml : m < sv.nt) (hpi : t < L1.length) (hnf10 : S.nf ≤ 10) (f1 : (nth L1 t).fs.length ≤ 900) (f2 : (nth L1 t).os.length ≤ 900)
    (HRB : Hid (∀ U, Keep Y2 C U → U.heap[rb]? = some (.cells #[.int .i64 0, .int .i64 0] 39 (0, 0))))
    (HKC0 : Hid (Keep Y2 C w0)) (HP0 : Hid (Parts Y2 w0 (.slice (some ⟨gj, 0, none⟩) L1.length vc) (L1.set t (partK (nth L1 t) kk S 0)) rv0))
    (v0 v1 v2 v4 v5 v8 v9 v10 v13 v14 v16 v17 v18 v19 v20 v21 v22 v23 v24 v25 v26 v27 v28 v29 v30 v31 v32 v33 v34 v35 v36 v37 v38 v39 v40 v41 v42 v43 v44 v45 v46 v47 v48 v49 v50 v51 v52 v53 v54 v55 v56 v57 v58 v59 v60 v61 v62 v63 v64 v65 v66 v67 v68 v69 v70 v71 v72 v73 v74 v75 v76 v77 v78 v79 v80 v81 v82 v83 v84 v85 v86 v87 v88 v89 v90 v91 v92 v93 v94 v95 v96 v97 v98 v99 v100 v101 v102 v103 v104 v105 v106 v107 v108 v109 v110 v111 v112 v113 v114 v115 v116 v117 v118 v119 v123 v124 v125 v126 v127 v128 v129 v130 v131 v132 v133 v134 v135 v136 v137 v138 v139 v140 v141 v142 v143 v144 v145 v146 v147 v148 v149 v150 v151 v152 v153 v154 v155 v156 v157 v158 v159 v160 v161 v162 v163 v164 v165 v166 v167 v168 v169 v170 v171 v172 v173 v174 v175 v176 v177 : Value)
    (HEND : Hid (∀ (u2 u16 u17 u122 u123 u124 u125 u126 u127 u128 u129 u130 u131 u132 u133 u134 u135 u136 u137 u138 u139 u140 u141 u142 u143 u144 u145 u146 u147 u148 u149 u150 u151 u152 u153 u154 u155 u156 u157 u158 u159 u160 u161 u162 u163 u164 u165 u166 u167 u168 u169 u170 u171 u172 u173 : Value) (w' : World), (∀ j, j < S.nf → clash (nth L1 t) S j = false) → Keep Y2 C w' → (∃ rv', Parts Y2 w' (.slice (some ⟨gj, 0, none⟩) L1.length vc) (L1.set t (partK (nth L1 t) kk S S.nf)) rv') → Q .normal ⟨#[v0, v1, u2, .pointer (some ⟨rb, 0, none⟩), v4, v5, .int .i64 kk, .pointer (some ⟨bs, 0, none⟩), v8, v9, v10, .slice a3 sv.nt k3, .int .i64 (m : Int), v13, v14, .pointer (some ⟨gj, t * 4, none⟩), u16, u17, v18, v19, v20, v21, v22, v23, v24, v25, v26, v27, v28, v29, v30, v31, v32, v33, v34, v35, v36, v37, v38, v39, v40, v41, v42, v43, v44, v45, v46, v47, v48, v49, v50, v51, v52, v53, v54, v55, v56, v57, v58, v59, v60, v61, v62, v63, v64, v65, v66, v67, v68, v69, v70, v71, v72, v73, v74, v75, v76, v77, v78, v79, v80, v81, v82, v83, v84, v85, v86, v87, v88, v89, v90, v91, v92, v93, v94, v95, v96, v97, v98, v99, v100, v101, v102, v103, v104, v105, v106, v107, v108, v109, v110, v111, v112, v113, v114, v115, v116, v117, v118, v119, .slice A S.nf Cp, .int .i64 (S.nf : Int), u122, u123, u124, u125, u126, u127, u128, u129, u130, u131, u132, u133, u134, u135, u136, u137, u138, u139, u140, u141, u142, u143, u144, u145, u146, u147, u148, u149, u150, u151, u152, u153, u154, u155, u156, u157, u158, u159, u160, u161, u162, u163, u164, u165, u166, u167, u168, u169, u170, u171, u172, u173, v174, v175, v176, v177], []⟩ w'))
    (HRET : Hid (∀ (a' : Act) (U : World) (q : Nat), q < S.nf → clash (nth L1 t) S q = true → Keep Y2 C U → a'.defers = [] → a'.tmps.getD 2 undef = .slice none 0 0 → a'.tmps.getD 3 undef = .pointer (some ⟨rb, 0, none⟩) → Q .ret a' ((U.setCell ⟨rb, 0, none⟩ (.int .i64 6)).setCell ⟨rb, 1, none⟩ (.int .i64 kk)))) :
    Code.wp Tryz.prog (allBlock 6) Q ⟨#[v0, v1, v2, .pointer (some ⟨rb, 0, none⟩), v4, v5, .int .i64 kk, .pointer (some ⟨bs, 0, none⟩), v8, v9, v10, .slice a3 sv.nt k3, .int .i64 (m : Int), v13, v14, .pointer (some ⟨gj, t * 4, none⟩), v16, v17, v18, v19, v20, v21, v22, v23, v24, v25, v26, v27, v28, v29, v30, v31, v32, v33, v34, v35, v36, v37, v38, v39, v40, v41, v42, v43, v44, v45, v46, v47, v48, v49, v50, v51, v52, v53, v54, v55, v56, v57, v58, v59, v60, v61, v62, v63, v64, v65, v66, v67, v68, v69, v70, v71, v72, v73, v74, v75, v76, v77, v78, v79, v80, v81, v82, v83, v84, v85, v86, v87, v88, v89, v90, v91, v92, v93, v94, v95, v96, v97, v98, v99, v100, v101, v102, v103, v104, v105, v106, v107, v108, v109, v110, v111, v112, v113, v114, v115, v116, v117, v118, v119, .slice A S.nf Cp, .int .i64 (S.nf : Int), .int .i64 0, v123, v124, v125, v126, v127, v128, v129, v130, v131, v132, v133, v134, v135, v136, v137, v138, v139, v140, v141, v142, v143, v144, v145, v146, v147, v148, v149, v150, v151, v152, v153, v154, v155, v156, v157, v158, v159, v160, v161, v162, v163, v164, v165, v166, v167, v168, v169, v170, v171, v172, v173, v174, v175, v176, v177], []⟩ w0 := by
  obtain ⟨iF, fi, fz0, fz1, fz2⟩ := info_parts' Tryz.info113
  obtain ⟨iO, oi, oz0, oz1, oz2⟩ := info_parts' Tryz.info92
  have hown : Small S.own := HGS.out.2.1
  refine calm ?_
  conv => arg 2; whnf
  go_wp2_with fail
  go_loopw [122] (fun i wr => ∃ q : Nat, q ≤ S.nf ∧ i = .int .i64 q ∧ Hid (∀ j, j < q → clash (nth L1 t) S j = false) ∧ Keep Y2 C wr ∧ ∃ rv', Parts Y2 wr (.slice (some ⟨gj, 0, none⟩) L1.length vc) (L1.set t (partK (nth L1 t) kk S q)) rv') (fun i _ => S.nf - (intOf i).toNat)
  case atStart => exact ⟨0, Nat.zero_le _, rfl, (fun j hj => absurd hj (Nat.not_lt_zero _)), HKC0.out, rv0, HP0.out⟩
  case round =>
    clear HP0 HKC0
    obtain ⟨q, hq, rfl, hcl, hKr, rk, hPr⟩ := hrel
    have HCF := Hid.intro hcl
    clear hcl
    by_cases hql : q < S.nf
    · have hty := HTY.out wr hKr
      obtain ⟨fb, fo, hfa, f0, f1', f2', hs0, hs2, hkw⟩ := hty.fld.2 q hql
      rw [hfa]
      have HGF : Hid (GoodF (S.F q)) := ⟨hs0, hs2, hkw⟩
      have hql' : (q : Int) < (S.nf : Int) := by omega
      have hq0 : (0 : Int) ≤ (q : Int) := by omega
      have htl : t < (L1.set t (partK (nth L1 t) kk S q)).length := by rw [List.length_set]; exact hpi
      generalize hE : wr.alloc (Obj.cells #[.string (S.F q).name, .int .i64 (S.F q).kind, .string (S.F q).type] 113) = E
      have hBE : Below wr.heap.size wr E := by rw [← hE]; exact below1 _ _
      have m0 : E.cell? ⟨wr.heap.size, 0, none⟩ = some (.string (S.F q).name) := by rw [← hE, World.cell?_alloc_at _ _ _ _ rfl]; rfl
      have m1 : E.cell? ⟨wr.heap.size, 1, none⟩ = some (.int .i64 (S.F q).kind) := by rw [← hE, World.cell?_alloc_at _ _ _ _ rfl]; rfl
      have m2 : E.cell? ⟨wr.heap.size, 2, none⟩ = some (.string (S.F q).type) := by rw [← hE, World.cell?_alloc_at _ _ _ _ rfl]; rfl
      have hYr : ∀ b, Y2 b → b < wr.heap.size := fun b hb => Nat.lt_of_lt_of_le (HY2C.out b hb) hKr.size
      have hPE := hPr.kept' hBE
      have hKE : Keep Y2 C E := hKr.trans (Keep.of hBE hYr)
      have hlS : (L1.set t (partK (nth L1 t) kk S q)).length = L1.length := List.length_set
      rw [← hlS] at hPE
      obtain ⟨g', cap', a1', c1', a2', c2', a3', c3', hv, e1, e2, e3, k0, k1, k2, k3'⟩ := hPE.aggs htl
      cases hv
      have R0 := hPE.rows 0 t (by decide) htl
      have hgd := hPE.good t htl
      rw [nth_set_self hpi] at e1 e2 e3 k0 k1 k2 k3' R0 hgd
      have R0' : Row E 0 113 3 (rk 0 t) (partK (nth L1 t) kk S q).fs.length (fieldCell (fsN (partK (nth L1 t) kk S q))) := R0
      obtain ⟨a9, c9, e9, -, hFA9⟩ := R0'.fieldsAt (hgd.len 0) hgd.fs
      rw [e1] at e9
      cases e9
      have hfl : (partK (nth L1 t) kk S q).fs.length ≤ 910 := by unfold partK; simp; omega
      have hol : (partK (nth L1 t) kk S q).os.length ≤ 910 := by unfold partK; simp; omega
      have cA : ∀ d os, Calls Tryz.prog 41 #[.slice a1' (partK (nth L1 t) kk S q).fs.length c1', .string (S.F q).name] (grow (redrawn E d) os) fun e w'' => e = .returned (.bool (decide (0 ≤ fieldIdx (partK (nth L1 t) kk S q).fs.length (fsN (partK (nth L1 t) kk S q)) (S.F q).name))) ∧ ∃ p : Regrown, w'' = grow (redrawn E p.d) p.os := fun d os => Calls.regrown_of (refHas_any _ _ _ _ _ _ (hFA9.kept (below_regrown E d os)))
      have HCI := Hid.intro (clash_iff (p := nth L1 t) (svc := kk) (S := S) (k := q))
      rw [e1] at R0'
      have HR0 := Hid.intro R0'
      have HPE := Hid.intro hPE
      have HKE := Hid.intro hKE
      have HYE : Hid (∀ b, Y2 b → b < E.heap.size) := fun b hb => Nat.lt_of_lt_of_le (hYr b hb) hBE.size
      have HGD := Hid.intro hgd
      have E1 := Hid.intro e1
      have p1 := cell_regrown k1
      have p0 := cell_regrown m0
      clear hPE hKE hYr hBE R0 R0' hgd e1 e2 e3 k0 k2 k3' hFA9 hty hKr hPr hs0 hs2 hkw hfa
      generalize fieldIdx (partK (nth L1 t) kk S q).fs.length (fsN (partK (nth L1 t) kk S q)) (S.F q).name = fx at *
      generalize hyy : decide (0 ≤ fx) = y at *
      have HYD := Hid.intro hyy
      clear hyy
      go_wp2_with fail
      clear hE f0 f1' f2'
      refine wp_region_quiet_below (by kernel_rfl) (by kernel_rfl) ?_
      repeat (go_big_quiet_step (first | exact cA _ _))
      refine wpQuiet_nil ?_
      intro _ hw'
      obtain ⟨⟨dq, osq⟩, hw''⟩ := hw'
      subst hw''
      have hBU := below_regrown E dq osq
      have k1 := cell_regrown k1 dq osq
      have m0 := cell_regrown m0 dq osq
      have m1 := cell_regrown m1 dq osq
      have m2 := cell_regrown m2 dq osq
      have HKU : Hid (Keep Y2 C (grow (redrawn E dq) osq)) := HKE.out.trans (Keep.of hBU HYE.out)
      have HPU := Hid.intro (HPE.out.kept' hBU)
      have HR0U := Hid.intro (HR0.out.kept hBU)
      have HYU : Hid (∀ b, Y2 b → b < (grow (redrawn E dq) osq).heap.size) := fun b hb => Nat.lt_of_lt_of_le (HYE.out b hb) hBU.size
      clear hBU cA p0 p1 HPE HR0 HKE HYE
      generalize grow (redrawn E dq) osq = U at *
      cases y
      case true =>
        have hneg : 0 ≤ fx := of_decide_eq_true HYD.out
        have hcq : clash (nth L1 t) S q = true := HCI.out.2 (by omega)
        obtain ⟨x0, x1, z0, z1⟩ := box_cells (HRB.out U HKU.out)
        have HKUU := HKU.out
        rename_i Kx hKx
        refine hKx _ _ ?_
        clear hKx
        refine wp_mono (all_err rb kk U x0 x1 z0 z1 _ _ _ _ _ _ _ _ _ _ _ _ _ _ _ _ _ _ _ _ _ _ _ _ _ _ _ _ _ _ _ _ _ _ _ _ _ _ _ _ _ _ _ _ _ _ _ _ _ _ _ _ _ _ _ _ _ _ _ _ _ _ _ _ _ _ _ _ _ _ _ _ _ _ _ _ _ _ _ _ _ _ _ _ _ _ _ _ _ _ _ _ _ _ _ _ _ _ _ _ _ _ _ _ _ _ _ _ _ _ _ _ _ _ _ _ _ _ _ _ _ _ _ _ _ _ _ _ _ _ _ _ _ _ _ _ _ _ _ _ _ _ _ _ _ _ _ _ _ _ _ _ _ _ _ _ _ _ _ _ _ _ _ _ _ _ _ _ _ _ _ _ _ _ _) ?_
        rintro e a' w' ⟨rfl, hd, h2, h3, rfl⟩
        exact HRET.out a' U q hql hcq HKUU hd h2 h3
      have hneg : ¬ 0 ≤ fx := of_decide_eq_false HYD.out
      have HCL2 : Hid (∀ j, j < q + 1 → clash (nth L1 t) S j = false) := fun j hj => by
        rcases Nat.lt_succ_iff_lt_or_eq.1 hj with h | h
        · exact HCF.out j h
        · rw [h]
          cases hc : clash (nth L1 t) S q with
          | false => rfl
          | true => have := HCI.out.1 hc; omega
      clear hneg HCI HCF
      have HAP : Hid (∀ {X w' : World} {v' : Value}, Below U.heap.size U X → w'.ownsRow 0 113 3 v' ((partK (nth L1 t) kk S q).fs.length + 1) ((List.range ((partK (nth L1 t) kk S q).fs.length * 3)).map (fieldCell (fsN (partK (nth L1 t) kk S q))) ++ fieldL (S.F q)) → X.grownBy w' (Value.slice a1' (partK (nth L1 t) kk S q).fs.length c1').ownBlock → (v'.ownBlock = (Value.slice a1' (partK (nth L1 t) kk S q).fs.length c1').ownBlock ∨ v'.ownBlock = some X.heap.size) →
          (∃ rv', Parts Y2 (w'.setCell ⟨gj, t * 4 + 1, none⟩ v') (.slice (some ⟨gj, 0, none⟩) (L1.set t (partK (nth L1 t) kk S q)).length vc) ((L1.set t (partK (nth L1 t) kk S q)).set t (pF (partK (nth L1 t) kk S q) (S.F q))) rv') ∧ Keep Y2 U (w'.setCell ⟨gj, t * 4 + 1, none⟩ v') ∧ w'.cell? ⟨gj, t * 4 + 1, none⟩ = some (.slice a1' (partK (nth L1 t) kk S q).fs.length c1') ∧ w'.frozen? ⟨gj, t * 4 + 1, none⟩ = false) := fun hX h1 h2 h3 => by
        rw [← E1.out] at h2 h3 ⊢
        have e := nth_set_self (p := (partK (nth L1 t) kk S q)) hpi
        exact app_region HPU.out HYU.out (c := 0) (by decide) htl (by rw [e]; exact app_F _ _) (good_F HGD.out HGF.out (by unfold maxLen; omega)) hX (by rw [e]; exact h1) h2 h3
      have hgU : gj < U.heap.size := block_lt_of_cell k1
      have hbU : wr.heap.size < U.heap.size := block_lt_of_cell m0
      go_wp2_with fail
      go_cut [122] from 122 to 173 (fun i wx => i = .int .i64 q ∧ (∃ rv', Parts Y2 wx (.slice (some ⟨gj, 0, none⟩) (L1.set t (partK (nth L1 t) kk S q)).length vc) ((L1.set t (partK (nth L1 t) kk S q)).set t (pF (partK (nth L1 t) kk S q) (S.F q))) rv') ∧ Keep Y2 U wx)
      case first =>
        go_region_law (refine step_append_at rfl (.tmp 142) (.tmp 144) 94 rfl 0 113 iF _ 3 40 Tryz.underlying94 fi fz0 fz1 fz2 rfl (by decide) (.slice a1' (partK (nth L1 t) kk S q).fs.length c1') (partK (nth L1 t) kk S q).fs.length _ (by simp [Act.eval]) ((HR0U.out.kept (below1 U (Obj.cells #[.string (S.F q).name, .int .i64 (S.F q).kind, .string (S.F q).type] 113))).at (fun _ _ => rfl)) (some ⟨U.heap.size, 0, none⟩) 1 1 (fieldL (S.F q)) (by simp [Act.eval]) rfl (alloc_news U #[.string (S.F q).name, .int .i64 (S.F q).kind, .string (S.F q).type] _) (fun h => by cases h) (by intro u hu; simp [fieldL] at hu; rcases hu with rfl | rfl | rfl <;> rfl) (by unfold maxLen; omega) (by omega) (Nat.zero_le _) ?_; intro v' w' hw1 hw2 hw3; obtain ⟨vx, vy, hvv⟩ := owns_slice hw1; subst hvv; obtain ⟨hpp, hkk, hcc, hff⟩ := HAP.out (X := (U.alloc (Obj.cells #[.string (S.F q).name, .int .i64 (S.F q).kind, .string (S.F q).type] 113)).drew) (below1 U _).drew hw1 hw2 hw3; have HPP := Hid.intro hpp; have HKK := Hid.intro hkk; clear hpp hkk hw1 hw2 hw3)
        all_goals (try go_wp2_with fail)
        all_goals go_meet
        all_goals exact ⟨rfl, HPP.out, HKK.out⟩
      case rest =>
        obtain ⟨w5, hren⟩ : ∃ w5, w5 = wc := ⟨_, rfl⟩
        subst hren
        obtain ⟨rfl, ⟨rk2, hP2⟩, hK2⟩ := hcut
        have hK2' : Keep Y2 C w5 := HKU.out.trans hK2
        have hY5 : ∀ b, Y2 b → b < w5.heap.size := fun b hb => Nat.lt_of_lt_of_le (HY2C.out b hb) hK2'.size
        rw [set_set] at hP2
        have hls2 : (L1.set t (pF (partK (nth L1 t) kk S q) (S.F q))).length = L1.length := List.length_set
        rw [hlS, ← hls2] at hP2
        have htl2 : t < (L1.set t (pF (partK (nth L1 t) kk S q) (S.F q))).length := by rw [hls2]; exact hpi
        obtain ⟨g', cap', b1', d1', b2', d2', b3', d3', hv, e1, e2, e3, k0, k1, k2, k3'⟩ := hP2.aggs htl2
        cases hv
        have hty := HTY.out w5 hK2'
        obtain ⟨ob5, oo5, hta5, own5⟩ := hty.own
        have sv5 : w5.cell? ⟨bs, 0, none⟩ = some (.slice sv.ta sv.nt sv.tcap) := by simp [World.cell?, hty.box]
        rw [hta5] at sv5
        obtain ⟨tg, to5, tc, hta3, tx0, hKA⟩ := hty.txt
        subst hta3
        obtain ⟨nb, no, hna, n0, hso⟩ := hKA.2 q hql
        subst hna
        have R1 := hP2.rows 1 t (by decide) htl2
        have hgd := hP2.good t htl2
        rw [nth_set_self hpi] at e1 e2 e3 k0 k1 k2 k3' R1 hgd
        have HAP2 : Hid (∀ {X w' : World} {v' : Value}, Below w5.heap.size w5 X → w'.ownsRow 0 92 3 v' ((partK (nth L1 t) kk S q).os.length + 1) ((List.range ((partK (nth L1 t) kk S q).os.length * 3)).map (ownerCell (osN (partK (nth L1 t) kk S q))) ++ ownerL ⟨kk, S.own, S.O q⟩) → X.grownBy w' (Value.slice b2' (partK (nth L1 t) kk S q).os.length d2').ownBlock → (v'.ownBlock = (Value.slice b2' (partK (nth L1 t) kk S q).os.length d2').ownBlock ∨ v'.ownBlock = some X.heap.size) →
            (∃ rv', Parts Y2 (w'.setCell ⟨gj, t * 4 + 2, none⟩ v') (.slice (some ⟨gj, 0, none⟩) L1.length vc) (L1.set t (partK (nth L1 t) kk S (q + 1))) rv') ∧ Keep Y2 w5 (w'.setCell ⟨gj, t * 4 + 2, none⟩ v') ∧ w'.cell? ⟨gj, t * 4 + 2, none⟩ = some (.slice b2' (partK (nth L1 t) kk S q).os.length d2') ∧ w'.frozen? ⟨gj, t * 4 + 2, none⟩ = false) := fun hX h1 h2 h3 => by
          have e2' : rk2 1 t = .slice b2' (partK (nth L1 t) kk S q).os.length d2' := e2
          rw [← e2'] at h2 h3 ⊢
          have e := nth_set_self (p := pF (partK (nth L1 t) kk S q) (S.F q)) hpi
          have hh := app_region hP2 hY5 (c := 1) (by decide) htl2 (p' := pO (pF (partK (nth L1 t) kk S q) (S.F q)) ⟨kk, S.own, S.O q⟩) (by rw [e]; exact app_O _ _) (good_O hgd ⟨hown, hso, HKW.out⟩ (by show (partK (nth L1 t) kk S q).os.length < maxLen; unfold maxLen; omega)) hX (by rw [e]; exact h1) h2 h3
          rw [set_set, hls2, ← partK_succ] at hh
          exact hh
        have HR1 : Hid (Row w5 0 92 3 (.slice b2' (partK (nth L1 t) kk S q).os.length d2') (partK (nth L1 t) kk S q).os.length (ownerCell (osN (partK (nth L1 t) kk S q)))) := by
          have e2' : rk2 1 t = .slice b2' (partK (nth L1 t) kk S q).os.length d2' := e2
          have R1' : Row w5 0 92 3 (rk2 1 t) (partK (nth L1 t) kk S q).os.length (ownerCell (osN (partK (nth L1 t) kk S q))) := R1
          rw [e2'] at R1'; exact R1'
        have k2' : w5.cell? ⟨gj, t * 4 + 2, none⟩ = some (.slice b2' (partK (nth L1 t) kk S q).os.length d2') := k2
        have hgC : gj < w5.heap.size := block_lt_of_cell k2'
        have hs5 : bs < w5.heap.size := block_lt_of_cell sv5
        have ho5 : ob5 < w5.heap.size := block_lt_of_cell own5
        have ht5 : tg < w5.heap.size := block_lt_of_cell tx0
        have hn5' : nb < w5.heap.size := block_lt_of_cell n0
        have HK2 := Hid.intro hK2'
        clear hP2 hK2 hK2' hY5 e1 e2 e3 k0 k1 k2 k3' hKA R1 hgd HAP HR0U HPU m0 m1 m2 hty
        go_wp2_with fail
        refine owners_region (gj := gj) (tt := t) (k := kk) (q := q) (m := m) (to5 := 0) oi oz0 oz1 oz2 (by kernel_rfl) rfl rfl rfl rfl rfl rfl hml hql (by omega) HR1.out k2' sv5 own5 (by rw [Nat.zero_add]; exact tx0) n0 (fun v' w' hr => ?_) (fun st w' v' hr => ?_)
        · obtain ⟨Xr, hX, h1, h2, h3⟩ := hr
          have hh := HAP2.out hX h1 h2 h3
          exact ⟨⟨_, hh.2.2.1⟩, hh.2.2.2⟩
        obtain ⟨Xr, hX, h1, h2, h3⟩ := hr
        obtain ⟨hpp, hkk, -, -⟩ := HAP2.out hX h1 h2 h3
        have HPP := Hid.intro hpp
        have HK3 := Hid.intro (HK2.out.trans hkk)
        simp only [putAll, Act.put, List.setIfInBounds_toArray, List.set_cons_succ, List.set_cons_zero]
        clear hpp hkk hX h1 h2 h3 HAP2 HR1 k2' sv5 own5 tx0 n0
        go_wp2_with fail
        go_roundw
        case rel => exact ⟨q + 1, by omega, by go_num, HCL2, HK3.out, HPP.out⟩
        case measure => simp [intOf]; omega
    · have hqn : q = S.nf := by omega
      subst hqn
      have HKF := Hid.intro hKr
      have HPF : Hid (∃ rm', Parts Y2 wr (.slice (some ⟨gj, 0, none⟩) L1.length vc) (L1.set t (partK (nth L1 t) kk S S.nf)) rm') := ⟨rk, hPr⟩
      clear hKr hPr
      go_wp2_with fail
      exact HEND.out _ _ _ _ _ _ _ _ _ _ _ _ _ _ _ _ _ _ _ _ _ _ _ _ _ _ _ _ _ _ _ _ _ _ _ _ _ _ _ _ _ _ _ _ _ _ _ _ _ _ _ _ _ _ _ wr HCF.out HKF.out HPF.out
end Go.Proofs.YtjjggefmmeminabGreat
