import Derived.Test.YtjjggefmmeminabGreatJRm
import Derived.Test.YtjjggefmmeminabGreatRmFld
import Derived.Test.YtjjggefmmeminabGreatRmSea
import Derived.Deep.CutBlock
/-
  A type's round of stitchref1.All: it is put into its place, or a name is there already.
-/
namespace Go.Proofs.YtjjggefmmeminabGreat
open Go.RowKit Go.Sort Go.PlainAid

set_option maxRecDepth 100000 in
set_option maxHeartbeats 80000000 in
theorem type_block {Q : Exit → Act → World → Prop} {rb bs m qc k2 k3 Cp kf : Nat} {kk : Int} {sv : LServ} {S : PSeen} {a2 a3 A qa : Option Addr} {L : List PPart} {Y : Nat → Prop} {wr : World} {rm : Nat → Nat → Value}
    (HTY : Hid (∀ w', Keep Y wr w' → TyAt w' bs sv a2 a3 m A Cp S)) (HGS : Hid (GoodS S)) (HKW : Hid ((Lit.int .i64 kk).wf = true)) (HYR : Hid (∀ b, Y b → b < wr.heap.size))
    (hml : m < sv.nt) (hnf10 : S.nf ≤ 10) (HFW : Hid (Few L kf)) (hkf : kf ≤ 89)
    (HRB : Hid (∀ U, Keep Y wr U → U.heap[rb]? = some (.cells #[.int .i64 0, .int .i64 0] 39 (0, 0)))) (HPM : Hid (Parts Y wr (.slice qa L.length qc) L rm))
    (v0 v1 v2 v4 v8 v9 v10 v12 v13 v14 v15 v16 v17 v18 v19 v20 v21 v22 v23 v24 v25 v26 v27 v28 v29 v30 v31 v32 v33 v34 v35 v36 v37 v38 v39 v40 v41 v42 v43 v44 v46 v48 v49 v50 v51 v52 v53 v54 v55 v56 v57 v58 v59 v60 v61 v62 v63 v64 v65 v66 v67 v68 v69 v70 v71 v72 v73 v74 v75 v76 v77 v78 v79 v80 v81 v82 v83 v84 v85 v86 v87 v88 v89 v90 v91 v92 v93 v94 v95 v96 v97 v98 v99 v100 v101 v102 v103 v104 v105 v106 v107 v108 v109 v110 v111 v112 v113 v114 v115 v116 v117 v118 v119 v120 v121 v122 v123 v124 v125 v126 v127 v128 v129 v130 v131 v132 v133 v134 v135 v136 v137 v138 v139 v140 v141 v142 v143 v144 v145 v146 v147 v148 v149 v150 v151 v152 v153 v154 v155 v156 v157 v158 v159 v160 v161 v162 v163 v164 v165 v166 v167 v168 v169 v170 v171 v172 v173 v174 v175 v176 v177 : Value)
    (HEND : Hid (∀ (u2 u12 u13 u14 u15 u16 u17 u49 u50 u51 u52 u53 u54 u55 u56 u57 u58 u59 u60 u61 u62 u63 u64 u65 u66 u67 u68 u69 u70 u71 u72 u73 u74 u75 u76 u77 u78 u79 u80 u81 u82 u83 u84 u85 u86 u87 u88 u89 u90 u91 u92 u93 u94 u95 u96 u97 u98 u99 u100 u101 u102 u103 u104 u105 u106 u107 u108 u109 u110 u111 u112 u113 u114 u115 u116 u117 u118 u119 u120 u121 u122 u123 u124 u125 u126 u127 u128 u129 u130 u131 u132 u133 u134 u135 u136 u137 u138 u139 u140 u141 u142 u143 u144 u145 u146 u147 u148 u149 u150 u151 u152 u153 u154 u155 u156 u157 u158 u159 u160 u161 u162 u163 u164 u165 u166 u167 u168 u169 u170 u171 u172 u173 : Value) (va : Option Addr) (vc : Nat) (rj : Nat → Nat → Value) (w' : World), errT L S = 0 → Keep Y wr w' → Parts Y w' (.slice va (stepT kk L S).length vc) (stepT kk L S) rj → Q .normal ⟨#[v0, v1, u2, .pointer (some ⟨rb, 0, none⟩), v4, .slice va (stepT kk L S).length vc, .int .i64 kk, .pointer (some ⟨bs, 0, none⟩), v8, v9, v10, .slice a3 sv.nt k3, u12, u13, u14, u15, u16, u17, v18, v19, v20, v21, v22, v23, v24, v25, v26, v27, v28, v29, v30, v31, v32, v33, v34, v35, v36, v37, v38, v39, v40, v41, v42, v43, v44, .slice a2 sv.nt k2, v46, .int .i64 (m : Int), v48, u49, u50, u51, u52, u53, u54, u55, u56, u57, u58, u59, u60, u61, u62, u63, u64, u65, u66, u67, u68, u69, u70, u71, u72, u73, u74, u75, u76, u77, u78, u79, u80, u81, u82, u83, u84, u85, u86, u87, u88, u89, u90, u91, u92, u93, u94, u95, u96, u97, u98, u99, u100, u101, u102, u103, u104, u105, u106, u107, u108, u109, u110, u111, u112, u113, u114, u115, u116, u117, u118, u119, u120, u121, u122, u123, u124, u125, u126, u127, u128, u129, u130, u131, u132, u133, u134, u135, u136, u137, u138, u139, u140, u141, u142, u143, u144, u145, u146, u147, u148, u149, u150, u151, u152, u153, u154, u155, u156, u157, u158, u159, u160, u161, u162, u163, u164, u165, u166, u167, u168, u169, u170, u171, u172, u173, v174, v175, v176, v177], []⟩ w'))
    (HRET : Hid (∀ (a' : Act) (U : World), errT L S = 6 → Keep Y wr U → a'.defers = [] → a'.tmps.getD 2 undef = .slice none 0 0 → a'.tmps.getD 3 undef = .pointer (some ⟨rb, 0, none⟩) → Q .ret a' ((U.setCell ⟨rb, 0, none⟩ (.int .i64 6)).setCell ⟨rb, 1, none⟩ (.int .i64 kk)))) :
    Code.wp Tryz.prog (allBlock 3) Q ⟨#[v0, v1, v2, .pointer (some ⟨rb, 0, none⟩), v4, .slice qa L.length qc, .int .i64 kk, .pointer (some ⟨bs, 0, none⟩), v8, v9, v10, .slice a3 sv.nt k3, v12, v13, v14, v15, v16, v17, v18, v19, v20, v21, v22, v23, v24, v25, v26, v27, v28, v29, v30, v31, v32, v33, v34, v35, v36, v37, v38, v39, v40, v41, v42, v43, v44, .slice a2 sv.nt k2, v46, .int .i64 (m : Int), v48, v49, v50, v51, v52, v53, v54, v55, v56, v57, v58, v59, v60, v61, v62, v63, v64, v65, v66, v67, v68, v69, v70, v71, v72, v73, v74, v75, v76, v77, v78, v79, v80, v81, v82, v83, v84, v85, v86, v87, v88, v89, v90, v91, v92, v93, v94, v95, v96, v97, v98, v99, v100, v101, v102, v103, v104, v105, v106, v107, v108, v109, v110, v111, v112, v113, v114, v115, v116, v117, v118, v119, v120, v121, v122, v123, v124, v125, v126, v127, v128, v129, v130, v131, v132, v133, v134, v135, v136, v137, v138, v139, v140, v141, v142, v143, v144, v145, v146, v147, v148, v149, v150, v151, v152, v153, v154, v155, v156, v157, v158, v159, v160, v161, v162, v163, v164, v165, v166, v167, v168, v169, v170, v171, v172, v173, v174, v175, v176, v177], []⟩ wr := by
  have hty := HTY.out wr (Keep.refl _ _)
  obtain ⟨g2, hg2, n0, n1⟩ := hty.typ
  subst hg2
  have hml' : (m : Int) < (sv.nt : Int) := by omega
  have hm0 : (0 : Int) ≤ (m : Int) := by omega
  have hl90 : L.length ≤ 90 := by have := HFW.out.len; omega
  generalize hA : wr.alloc (Obj.cells #[.string S.name, .slice A S.nf Cp] 96) = C
  have hBC : Below wr.heap.size wr C := by rw [← hA]; exact below1 _ _
  have hbt : C.heap[wr.heap.size]? = some (.cells #[.string S.name, .slice A S.nf Cp] 96 (0, 0)) := by rw [← hA]; exact heap_alloc_new _ _
  have t0 : C.cell? ⟨wr.heap.size, 0, none⟩ = some (.string S.name) := by simp [World.cell?, hbt]
  obtain ⟨Y2, hY2d⟩ : ∃ Y2 : Nat → Prop, Y2 = fun b => Y b ∨ (wr.heap.size ≤ b ∧ b < C.heap.size) := ⟨_, rfl⟩
  have HPC : Hid (Parts Y2 C (.slice qa L.length qc) L rm) := by rw [hY2d]; exact HPM.out.kept hBC
  have HY2C : Hid (∀ b, Y2 b → b < C.heap.size) := fun b hb => by
    rw [hY2d] at hb
    rcases hb with hb | hb
    · exact Nat.lt_of_lt_of_le (HYR.out b hb) hBC.size
    · exact hb.2
  have HY2x : Hid (Y2 wr.heap.size) := by rw [hY2d]; exact .inr ⟨Nat.le_refl _, lt_of_block hbt⟩
  have HYY : Hid (∀ {a b : World}, Keep Y2 a b → Keep Y a b) := fun h => h.mono fun b hb => by rw [hY2d]; exact .inl hb
  have HPY : Hid (∀ {a : World} {v : Value} {L' : List PPart} {r : Nat → Nat → Value}, Parts Y2 a v L' r → Parts Y a v L' r) := fun h => h.less fun b hb => by rw [hY2d]; exact .inl hb
  have HKC : Hid (Keep Y wr C) := Keep.of hBC HYR.out
  have HFI := Hid.intro (HFW.out.ins S.name)
  have HBT := Hid.intro hbt
  have HSM : Hid (Small S.name) := HGS.out.1
  have HTYC : Hid (∀ w', Keep Y2 C w' → TyAt w' bs sv (some ⟨g2, 0, none⟩) a3 m A Cp S) := fun w' h => HTY.out w' (HKC.out.trans (HYY.out h))
  have HRBC : Hid (∀ U, Keep Y2 C U → U.heap[rb]? = some (.cells #[.int .i64 0, .int .i64 0] 39 (0, 0))) := fun U h => HRB.out U (HKC.out.trans (HYY.out h))
  clear hty hBC hY2d hbt HPM HYR HTY HRB
  refine calm ?_
  conv => arg 2; whnf
  go_upto_block 4 with fail
  clear hA n0 n1
  generalize wr.heap.size = bt at *
  refine search_block HPC t0 hl90 _ _ _ _ _ _ _ _ _ _ _ _ _ _ _ _ _ _ _ _ _ _ _ _ _ _ _ _ _ _ _ _ _ _ _ _ _ _ _ _ _ _ _ _ _ _ _ _ _ _ _ _ _ _ _ _ _ _ _ _ _ _ _ _ _ _ _ _ _ _ _ _ _ _ _ _ _ _ _ _ _ _ _ _ _ _ _ _ _ _ _ _ _ _ _ _ _ _ _ _ _ _ _ _ _ _ _ _ _ _ _ _ _ _ _ _ _ _ _ _ _ _ _ _ _ _ _ _ _ _ _ _ _ _ _ _ _ _ _ _ _ _ _ _ _ _ _ _ _ _ _ _ _ _ _ _ _ _ _ _ _ _ _ _ _ _ _ _ _ _ _ _ _ _ _ (Hid.intro ?_)
  intro u52 u53 u54 u55 u56 u57 u58 u59 u60 u61 u62 u63 u64 u65 u66 u67 u68 wk hwk
  rename_i Kx hKx
  refine hKx _ _ ?_
  clear hKx
  refine wp_seq ?_
  refine insert_stmt HPC t0 hl90 HSM HY2C (Hid.intro hwk) _ _ _ _ _ _ _ _ _ _ _ _ _ _ _ _ _ _ _ _ _ _ _ _ _ _ _ _ _ _ _ _ _ _ _ _ _ _ _ _ _ _ _ _ _ _ _ _ _ _ _ _ _ _ _ _ _ _ _ _ _ _ _ _ _ _ _ _ _ _ _ _ _ _ _ _ _ _ _ _ _ _ _ _ _ _ _ _ _ _ _ _ _ _ _ _ _ _ _ _ _ _ _ _ _ _ _ _ _ _ _ _ _ _ _ _ _ _ _ _ _ _ _ _ _ _ _ _ _ _ _ _ _ _ _ _ _ _ _ _ _ _ _ _ _ _ _ _ _ _ _ _ _ _ _ _ _ _ _ _ _ _ _ _ _ _ _ _ _ _ _ _ _ _ _ (Hid.intro ?_)
  intro u69 u70 u71 u72 u73 u74 u75 u76 u77 u78 u79 u80 u81 u82 u83 u84 u85 u86 u87 u88 u89 u90 u91 u92 u93 u94 u95 u96 u97 u98 va vc rj wj hPj hKj
  show Code.wp _ _ _ _ _
  obtain ⟨hpi, -⟩ := ins_pos (L := L) (s := S.name)
  obtain ⟨gj, cj, hvj, -⟩ := hPj.ptr hpi
  cases hvj
  have hty := HTYC.out wj hKj
  obtain ⟨ob, oo, hta, own0⟩ := hty.own
  have sv0 : wj.cell? ⟨bs, 0, none⟩ = some (.slice sv.ta sv.nt sv.tcap) := by simp [World.cell?, hty.box]
  rw [hta] at sv0
  clear hta
  have hbtj := (hKj.block _ HY2x.out).trans HBT.out
  have hGp := hPj.good _ hpi
  obtain ⟨f1, f2, f3⟩ := HFI.out.2 _ hpi
  obtain ⟨iO, oi, oz0, oz1, oz2⟩ := info_parts' Tryz.info92
  obtain ⟨g', cap', a1, c1, a5, c5, a6, c6, hv, e1, e5, e6, k0, k1, k2', k3'⟩ := hPj.aggs hpi
  cases hv
  have hY2j : ∀ b, Y2 b → b < wj.heap.size := fun b hb => Nat.lt_of_lt_of_le (HY2C.out b hb) hKj.size
  have R2 := hPj.rows 2 _ (by decide) hpi
  have hown : Small S.own := HGS.out.2.1
  have hl91 : (ins L S.name).length ≤ 91 := by have := HFI.out.1; omega
  have HET : Hid (errT L S = errP (nth (ins L S.name) (pos L S.name)) S) := rfl
  have HST : Hid (stepT kk L S = (ins L S.name).set (pos L S.name) (partK (nth (ins L S.name) (pos L S.name)) kk S S.nf)) := rfl
  clear HPC HFI
  generalize ins L S.name = L1 at *
  generalize pos L S.name = t at *
  have HAP : Hid (∀ {X w' : World} {v' : Value}, Below wj.heap.size wj X → w'.ownsRow 0 92 3 v' ((nth L1 t).hs.length + 1) ((List.range ((nth L1 t).hs.length * 3)).map (ownerCell (hsN (nth L1 t))) ++ ownerL ⟨kk, S.own, ⟨#[]⟩⟩) → X.grownBy w' (Value.slice a6 (nth L1 t).hs.length c6).ownBlock → (v'.ownBlock = (Value.slice a6 (nth L1 t).hs.length c6).ownBlock ∨ v'.ownBlock = some X.heap.size) →
      (∃ rv', Parts Y2 (w'.setCell ⟨gj, t * 4 + 3, none⟩ v') (.slice (some ⟨gj, 0, none⟩) L1.length vc) (L1.set t (partK (nth L1 t) kk S 0)) rv') ∧ Keep Y2 wj (w'.setCell ⟨gj, t * 4 + 3, none⟩ v') ∧ w'.cell? ⟨gj, t * 4 + 3, none⟩ = some (.slice a6 (nth L1 t).hs.length c6) ∧ w'.frozen? ⟨gj, t * 4 + 3, none⟩ = false) := fun hX h1 h2 h3 => by
    rw [← e6] at h2 h3 ⊢
    rw [partK_zero]
    exact app_region hPj hY2j (c := 2) (by decide) hpi (app_H (nth L1 t) ⟨kk, S.own, ⟨#[]⟩⟩) (good_H hGp ⟨hown, Nat.zero_le _, HKW.out⟩ (by unfold maxLen; omega)) hX h1 h2 h3
  rw [e6] at R2
  have HR2 : Hid (Row wj 0 92 3 (.slice a6 (nth L1 t).hs.length c6) (nth L1 t).hs.length (ownerCell (hsN (nth L1 t)))) := R2
  have HKJ := Hid.intro hKj
  have hti : (t : Int) < (L1.length : Int) := by omega
  have ht0 : (0 : Int) ≤ (t : Int) := by omega
  have hgj : gj < wj.heap.size := block_lt_of_cell k3'
  have hsj : bs < wj.heap.size := block_lt_of_cell sv0
  have hoj : ob < wj.heap.size := block_lt_of_cell own0
  clear hPj hKj hty hbtj hGp hY2j R2 e1 e5 e6 k0 k1 k2' t0 hwk
  go_upto_region 19 with fail
  go_cut [15] from 99 to 118 (fun p wx => p = .pointer (some ⟨gj, t * 4, none⟩) ∧ (∃ rv', Parts Y2 wx (.slice (some ⟨gj, 0, none⟩) L1.length vc) (L1.set t (partK (nth L1 t) kk S 0)) rv') ∧ Keep Y2 wj wx)
  case first =>
    go_region_law (refine step_append_at rfl (.tmp 106) (.tmp 115) 97 rfl 0 92 iO _ 3 40 Tryz.underlying97 oi oz0 oz1 oz2 rfl (by decide) (.slice a6 (nth L1 t).hs.length c6) (nth L1 t).hs.length _ (by simp [Act.eval]) ((HR2.out.kept (below1 wj (Obj.cells #[.int .i64 kk, .string S.own, .string ⟨#[]⟩] 92))).at (fun _ _ => rfl)) (some ⟨wj.heap.size, 0, none⟩) 1 1 (ownerL ⟨kk, S.own, ⟨#[]⟩⟩) (by simp [Act.eval]) rfl (alloc_news wj #[.int .i64 kk, .string S.own, .string ⟨#[]⟩] _) (fun h => by cases h) (by intro u hu; simp [ownerL] at hu; rcases hu with rfl | rfl | rfl <;> rfl) (by unfold maxLen; omega) (by omega) (Nat.zero_le _) ?_; intro v' w' hw1 hw2 hw3; obtain ⟨vx, vy, hvv⟩ := owns_slice hw1; subst hvv; obtain ⟨hpp, hkk, hcc, hff⟩ := HAP.out (X := (wj.alloc (Obj.cells #[.int .i64 kk, .string S.own, .string ⟨#[]⟩] 92)).drew) (below1 wj _).drew hw1 hw2 hw3; have HPP := Hid.intro hpp; have HKK := Hid.intro hkk; clear hpp hkk hw1 hw2 hw3)
    all_goals (try go_wp2_with fail)
    all_goals go_meet
    all_goals exact ⟨by first | rfl | (go_simp; done) | (simp; done), HPP.out, HKK.out⟩
  case rest =>
    obtain ⟨w0, hren⟩ : ∃ w0, w0 = wc := ⟨_, rfl⟩
    subst hren
    obtain ⟨rfl, ⟨rv0, hP0⟩, hK0⟩ := hcut
    have hKC0 : Keep Y2 C w0 := HKJ.out.trans hK0
    have hbt0 := (hKC0.block _ HY2x.out).trans HBT.out
    have t1 : w0.cell? ⟨bt, 1, none⟩ = some (.slice A S.nf Cp) := by simp [World.cell?, hbt0]
    have HP0 := Hid.intro hP0
    have HKC0 := Hid.intro hKC0
    clear hP0 hK0 hKC0 hbt0 HAP HR2 k3' sv0 own0
    go_upto_block 6 with fail
    refine fields_block HTYC HGS HKW HY2C hml hpi hnf10 (by omega) (by omega) HRBC HKC0 HP0 _ _ _ _ _ _ _ _ _ _ _ _ _ _ _ _ _ _ _ _ _ _ _ _ _ _ _ _ _ _ _ _ _ _ _ _ _ _ _ _ _ _ _ _ _ _ _ _ _ _ _ _ _ _ _ _ _ _ _ _ _ _ _ _ _ _ _ _ _ _ _ _ _ _ _ _ _ _ _ _ _ _ _ _ _ _ _ _ _ _ _ _ _ _ _ _ _ _ _ _ _ _ _ _ _ _ _ _ _ _ _ _ _ _ _ _ _ _ _ _ _ _ _ _ _ _ _ _ _ _ _ _ _ _ _ _ _ _ _ _ _ _ _ _ _ _ _ _ _ _ _ _ _ _ _ _ _ _ _ _ _ _ _ _ _ _ _ _ _ (Hid.intro ?_) (Hid.intro ?_)
    · intro u2 u16 u17 u122 u123 u124 u125 u126 u127 u128 u129 u130 u131 u132 u133 u134 u135 u136 u137 u138 u139 u140 u141 u142 u143 u144 u145 u146 u147 u148 u149 u150 u151 u152 u153 u154 u155 u156 u157 u158 u159 u160 u161 u162 u163 u164 u165 u166 u167 u168 u169 u170 u171 u172 u173 w' hcf hk hp
      obtain ⟨rv', hp⟩ := hp
      have hl : (stepT kk L S).length = L1.length := by rw [HST.out, List.length_set]
      rw [← hl]
      exact HEND.out _ _ _ _ _ _ _ _ _ _ _ _ _ _ _ _ _ _ _ _ _ _ _ _ _ _ _ _ _ _ _ _ _ _ _ _ _ _ _ _ _ _ _ _ _ _ _ _ _ _ _ _ _ _ _ _ _ _ _ _ _ _ _ _ _ _ _ _ _ _ _ _ _ _ _ _ _ _ _ _ _ _ _ _ _ _ _ _ _ _ _ _ _ _ _ _ _ _ _ _ _ _ _ _ _ _ _ _ _ _ _ _ _ _ _ _ _ _ _ _ _ _ _ _ _ _ _ _ _ _ _ _ (some ⟨gj, 0, none⟩) vc rv' w' (by rw [HET.out]; exact errP_none hcf) (HKC.out.trans (HYY.out hk)) (by rw [hl, HST.out]; exact HPY.out hp)
    · intro a' U q hq hcq hk hd h2 h3
      exact HRET.out a' U (by rw [HET.out]; exact errP_hit hq hcq) (HKC.out.trans (HYY.out hk)) hd h2 h3
end Go.Proofs.YtjjggefmmeminabGreat
