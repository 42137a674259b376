import Derived.Test.YtjjggefmmeminabGreatJRm
import Derived.Deep.CutBlock
/-
  The search for a type's place in stitchref1.All, and the place made where there is none.
-/
namespace Go.Proofs.YtjjggefmmeminabGreat
open Go.RowKit Go.Sort Go.PlainAid

set_option maxRecDepth 100000 in
set_option maxHeartbeats 80000000 in
theorem search_block {Q : Exit → Act → World → Prop} {bt qc : Nat} {qa : Option Addr} {nm : ByteArray} {L : List PPart} {Y2 : Nat → Prop} {C : World} {rm : Nat → Nat → Value}
    (HPC : Hid (Parts Y2 C (.slice qa L.length qc) L rm)) (t0 : C.cell? ⟨bt, 0, none⟩ = some (.string nm)) (hl90 : L.length ≤ 90)
    (v0 v1 v2 v3 v4 v6 v7 v8 v9 v10 v11 v12 v15 v16 v17 v18 v19 v20 v21 v22 v23 v24 v25 v26 v27 v28 v29 v30 v31 v32 v33 v34 v35 v36 v37 v38 v39 v40 v41 v42 v43 v44 v45 v46 v47 v48 v49 v50 v51 v52 v53 v54 v55 v56 v57 v58 v59 v60 v61 v62 v63 v64 v65 v66 v67 v68 v69 v70 v71 v72 v73 v74 v75 v76 v77 v78 v79 v80 v81 v82 v83 v84 v85 v86 v87 v88 v89 v90 v91 v92 v93 v94 v95 v96 v97 v98 v99 v100 v101 v102 v103 v104 v105 v106 v107 v108 v109 v110 v111 v112 v113 v114 v115 v116 v117 v118 v119 v120 v121 v122 v123 v124 v125 v126 v127 v128 v129 v130 v131 v132 v133 v134 v135 v136 v137 v138 v139 v140 v141 v142 v143 v144 v145 v146 v147 v148 v149 v150 v151 v152 v153 v154 v155 v156 v157 v158 v159 v160 v161 v162 v163 v164 v165 v166 v167 v168 v169 v170 v171 v172 v173 v174 v175 v176 v177 : Value)
    (HEND : Hid (∀ (u52 u53 u54 u55 u56 u57 u58 u59 u60 u61 u62 u63 u64 u65 u66 u67 u68 : Value) (w' : World), Below C.heap.size C w' → Q .normal ⟨#[v0, v1, v2, v3, v4, .slice qa L.length qc, v6, v7, v8, v9, v10, v11, v12, .pointer (some ⟨bt, 0, none⟩), .int .i64 (pos L nm : Int), v15, v16, v17, v18, v19, v20, v21, v22, v23, v24, v25, v26, v27, v28, v29, v30, v31, v32, v33, v34, v35, v36, v37, v38, v39, v40, v41, v42, v43, v44, v45, v46, v47, v48, v49, v50, v51, u52, u53, u54, u55, u56, u57, u58, u59, u60, u61, u62, u63, u64, u65, u66, u67, u68, v69, v70, v71, v72, v73, v74, v75, v76, v77, v78, v79, v80, v81, v82, v83, v84, v85, v86, v87, v88, v89, v90, v91, v92, v93, v94, v95, v96, v97, v98, v99, v100, v101, v102, v103, v104, v105, v106, v107, v108, v109, v110, v111, v112, v113, v114, v115, v116, v117, v118, v119, v120, v121, v122, v123, v124, v125, v126, v127, v128, v129, v130, v131, v132, v133, v134, v135, v136, v137, v138, v139, v140, v141, v142, v143, v144, v145, v146, v147, v148, v149, v150, v151, v152, v153, v154, v155, v156, v157, v158, v159, v160, v161, v162, v163, v164, v165, v166, v167, v168, v169, v170, v171, v172, v173, v174, v175, v176, v177], []⟩ w')) :
    Code.wp Tryz.prog (allBlock 4) Q ⟨#[v0, v1, v2, v3, v4, .slice qa L.length qc, v6, v7, v8, v9, v10, v11, v12, .pointer (some ⟨bt, 0, none⟩), .int .i64 0, v15, v16, v17, v18, v19, v20, v21, v22, v23, v24, v25, v26, v27, v28, v29, v30, v31, v32, v33, v34, v35, v36, v37, v38, v39, v40, v41, v42, v43, v44, v45, v46, v47, v48, v49, v50, v51, v52, v53, v54, v55, v56, v57, v58, v59, v60, v61, v62, v63, v64, v65, v66, v67, v68, v69, v70, v71, v72, v73, v74, v75, v76, v77, v78, v79, v80, v81, v82, v83, v84, v85, v86, v87, v88, v89, v90, v91, v92, v93, v94, v95, v96, v97, v98, v99, v100, v101, v102, v103, v104, v105, v106, v107, v108, v109, v110, v111, v112, v113, v114, v115, v116, v117, v118, v119, v120, v121, v122, v123, v124, v125, v126, v127, v128, v129, v130, v131, v132, v133, v134, v135, v136, v137, v138, v139, v140, v141, v142, v143, v144, v145, v146, v147, v148, v149, v150, v151, v152, v153, v154, v155, v156, v157, v158, v159, v160, v161, v162, v163, v164, v165, v166, v167, v168, v169, v170, v171, v172, v173, v174, v175, v176, v177], []⟩ C := by
  conv => arg 2; whnf
  go_wp2_with fail
  go_loopw [14] (fun q wr => ∃ p : Nat, p ≤ pos L nm ∧ q = .int .i64 p ∧ Below C.heap.size C wr) (fun q _ => pos L nm - (intOf q).toNat)
  case atStart => exact ⟨0, Nat.zero_le _, rfl, Below.refl _ _⟩
  case round =>
    obtain ⟨p, hp, rfl, hw⟩ := hrel
    have hpl := pos_le L nm
    have t0r := keptCell hw t0
    have t0q := cell_regrown t0r
    have HWr := Hid.intro hw
    go_upto_region 14 with fail
    go_cut [14, 66] from 52 to 68 (fun q c wx => q = .int .i64 (p : Int) ∧ c = .bool (decide (p < pos L nm)) ∧ Below wr.heap.size wr wx)
    case first =>
      by_cases hpL : p < L.length
      · have hPr := HPC.out.kept' hw
        obtain ⟨gL, capL, hv, -⟩ := hPr.ptr hpL
        cases hv
        have k0 := cell_regrown (hPr.cells hpL).1
        have hp1 : (p : Int) < (L.length : Int) := by omega
        have hp0 : (0 : Int) ≤ (p : Int) := by omega
        have hlt2 : Op.bytesLess (nth L p).name.toList nm.toList = decide (p < pos L nm) := by
          rw [lt_eq]
          by_cases h : p < pos L nm
          · rw [pos_lt h, decide_eq_true h]
          · have e : p = pos L nm := by omega
            rw [decide_eq_false h, e]
            exact pos_at (by rw [← e]; exact hpL)
        clear hPr hw
        refine wp_region_quiet_below (by kernel_rfl) (by kernel_rfl) ?_
        repeat (go_big_quiet_step (fail))
        refine wpQuiet_nil ?_
        intro _ hw'
        obtain ⟨⟨dq, osq⟩, hw''⟩ := hw'
        subst hw''
        go_wp2_with fail
        go_meet
        exact ⟨rfl, by rw [← hlt2], below_regrown _ _ _⟩
      · have hp1 : ¬ (p : Int) < (L.length : Int) := by omega
        have hpd : decide (p < pos L nm) = false := decide_eq_false (by omega)
        have hpd2 : decide ((p : Int) < (L.length : Int)) = false := decide_eq_false hp1
        clear hw
        refine wp_region_quiet_below (by kernel_rfl) (by kernel_rfl) ?_
        repeat (go_big_quiet_step (fail))
        refine wpQuiet_nil ?_
        intro _ hw'
        obtain ⟨⟨dq, osq⟩, hw''⟩ := hw'
        subst hw''
        go_wp2_with fail
        go_meet
        exact ⟨rfl, by rw [hpd], below_regrown _ _ _⟩
    case rest =>
      obtain ⟨wk, hren⟩ : ∃ wk, wk = wc := ⟨_, rfl⟩
      subst hren
      obtain ⟨rfl, rfl, hwk⟩ := hcut
      have HWK : Hid (Below C.heap.size C wk) := HWr.out.trans (hwk.mono HWr.out.size)
      clear hwk hw t0r t0q HWr
      by_cases hpp : p < pos L nm
      · rw [decide_eq_true hpp]
        go_wp2_with fail
        go_roundw
        case rel => exact ⟨p + 1, by omega, by go_num, HWK.out⟩
        case measure => simp [intOf]; omega
      · have hpe : p = pos L nm := by omega
        rw [decide_eq_false hpp]
        subst hpe
        go_wp2_with fail
        exact HEND.out _ _ _ _ _ _ _ _ _ _ _ _ _ _ _ _ _ wk HWK.out

set_option maxRecDepth 100000 in
set_option maxHeartbeats 80000000 in
theorem insert_stmt {Q : Exit → Act → World → Prop} {bt qc : Nat} {qa : Option Addr} {nm : ByteArray} {L : List PPart} {Y2 : Nat → Prop} {C wk : World} {rm : Nat → Nat → Value}
    (HPC : Hid (Parts Y2 C (.slice qa L.length qc) L rm)) (t0 : C.cell? ⟨bt, 0, none⟩ = some (.string nm)) (hl90 : L.length ≤ 90) (HSM : Hid (Small nm)) (HY2C : Hid (∀ b, Y2 b → b < C.heap.size)) (HWK : Hid (Below C.heap.size C wk))
    (v0 v1 v2 v3 v4 v6 v7 v8 v9 v10 v11 v12 v15 v16 v17 v18 v19 v20 v21 v22 v23 v24 v25 v26 v27 v28 v29 v30 v31 v32 v33 v34 v35 v36 v37 v38 v39 v40 v41 v42 v43 v44 v45 v46 v47 v48 v49 v50 v51 v52 v53 v54 v55 v56 v57 v58 v59 v60 v61 v62 v63 v64 v65 v66 v67 v68 v69 v70 v71 v72 v73 v74 v75 v76 v77 v78 v79 v80 v81 v82 v83 v84 v85 v86 v87 v88 v89 v90 v91 v92 v93 v94 v95 v96 v97 v98 v99 v100 v101 v102 v103 v104 v105 v106 v107 v108 v109 v110 v111 v112 v113 v114 v115 v116 v117 v118 v119 v120 v121 v122 v123 v124 v125 v126 v127 v128 v129 v130 v131 v132 v133 v134 v135 v136 v137 v138 v139 v140 v141 v142 v143 v144 v145 v146 v147 v148 v149 v150 v151 v152 v153 v154 v155 v156 v157 v158 v159 v160 v161 v162 v163 v164 v165 v166 v167 v168 v169 v170 v171 v172 v173 v174 v175 v176 v177 : Value)
    (HEND : Hid (∀ (u69 u70 u71 u72 u73 u74 u75 u76 u77 u78 u79 u80 u81 u82 u83 u84 u85 u86 u87 u88 u89 u90 u91 u92 u93 u94 u95 u96 u97 u98 : Value) (va : Option Addr) (vc : Nat) (rj : Nat → Nat → Value) (w' : World), Parts Y2 w' (.slice va (ins L nm).length vc) (ins L nm) rj → Keep Y2 C w' → Q .normal ⟨#[v0, v1, v2, v3, v4, .slice va (ins L nm).length vc, v6, v7, v8, v9, v10, v11, v12, .pointer (some ⟨bt, 0, none⟩), .int .i64 (pos L nm : Int), v15, v16, v17, v18, v19, v20, v21, v22, v23, v24, v25, v26, v27, v28, v29, v30, v31, v32, v33, v34, v35, v36, v37, v38, v39, v40, v41, v42, v43, v44, v45, v46, v47, v48, v49, v50, v51, v52, v53, v54, v55, v56, v57, v58, v59, v60, v61, v62, v63, v64, v65, v66, v67, v68, u69, u70, u71, u72, u73, u74, u75, u76, u77, u78, u79, u80, u81, u82, u83, u84, u85, u86, u87, u88, u89, u90, u91, u92, u93, u94, u95, u96, u97, u98, v99, v100, v101, v102, v103, v104, v105, v106, v107, v108, v109, v110, v111, v112, v113, v114, v115, v116, v117, v118, v119, v120, v121, v122, v123, v124, v125, v126, v127, v128, v129, v130, v131, v132, v133, v134, v135, v136, v137, v138, v139, v140, v141, v142, v143, v144, v145, v146, v147, v148, v149, v150, v151, v152, v153, v154, v155, v156, v157, v158, v159, v160, v161, v162, v163, v164, v165, v166, v167, v168, v169, v170, v171, v172, v173, v174, v175, v176, v177], []⟩ w')) :
    Code.wp Tryz.prog (allSeq 16) Q ⟨#[v0, v1, v2, v3, v4, .slice qa L.length qc, v6, v7, v8, v9, v10, v11, v12, .pointer (some ⟨bt, 0, none⟩), .int .i64 (pos L nm : Int), v15, v16, v17, v18, v19, v20, v21, v22, v23, v24, v25, v26, v27, v28, v29, v30, v31, v32, v33, v34, v35, v36, v37, v38, v39, v40, v41, v42, v43, v44, v45, v46, v47, v48, v49, v50, v51, v52, v53, v54, v55, v56, v57, v58, v59, v60, v61, v62, v63, v64, v65, v66, v67, v68, v69, v70, v71, v72, v73, v74, v75, v76, v77, v78, v79, v80, v81, v82, v83, v84, v85, v86, v87, v88, v89, v90, v91, v92, v93, v94, v95, v96, v97, v98, v99, v100, v101, v102, v103, v104, v105, v106, v107, v108, v109, v110, v111, v112, v113, v114, v115, v116, v117, v118, v119, v120, v121, v122, v123, v124, v125, v126, v127, v128, v129, v130, v131, v132, v133, v134, v135, v136, v137, v138, v139, v140, v141, v142, v143, v144, v145, v146, v147, v148, v149, v150, v151, v152, v153, v154, v155, v156, v157, v158, v159, v160, v161, v162, v163, v164, v165, v166, v167, v168, v169, v170, v171, v172, v173, v174, v175, v176, v177], []⟩ wk := by
  conv => arg 2; whnf
  dsimp only
  have t0k := keptCell HWK.out t0
  have t0q := cell_regrown t0k
  go_upto_region 16 with fail
  go_cut [83] from 69 to 98 (fun c wx => c = .bool (!hit L nm) ∧ Below wk.heap.size wk wx)
  case first =>
    by_cases hpL : pos L nm < L.length
    · have hPr := HPC.out.kept' HWK.out
      obtain ⟨gL, capL, hv, -⟩ := hPr.ptr hpL
      cases hv
      have k0 := cell_regrown (hPr.cells hpL).1
      have hp1 : (pos L nm : Int) < (L.length : Int) := by omega
      have hp0 : (0 : Int) ≤ (pos L nm : Int) := by omega
      have hp2 : ((pos L nm : Int) == (L.length : Int)) = false := by simp; omega
      have hhit : hit L nm = ((nth L (pos L nm)).name.toList == nm.toList) := by unfold hit; rw [decide_eq_true hpL, eqs_eq]; rfl
      have HH := Hid.intro hhit
      clear hPr hhit
      refine wp_region_quiet_below (by kernel_rfl) (by kernel_rfl) ?_
      repeat (go_big_quiet_step (fail))
      refine wpQuiet_nil ?_
      intro _ hw'
      obtain ⟨⟨dq, osq⟩, hw''⟩ := hw'
      subst hw''
      go_wp2_with fail
      go_meet
      exact ⟨by rw [HH.out], below_regrown _ _ _⟩
    · have hpe : pos L nm = L.length := by have := pos_le L nm; omega
      have hp2 : ((pos L nm : Int) == (L.length : Int)) = true := by rw [hpe]; simp
      have hhit : hit L nm = false := by unfold hit; rw [decide_eq_false hpL]; rfl
      have HH := Hid.intro hhit
      clear hpe hhit
      refine wp_region_quiet_below (by kernel_rfl) (by kernel_rfl) ?_
      repeat (go_big_quiet_step (fail))
      refine wpQuiet_nil ?_
      intro _ hw'
      obtain ⟨⟨dq, osq⟩, hw''⟩ := hw'
      subst hw''
      go_wp2_with fail
      go_meet
      exact ⟨by rw [HH.out]; rfl, below_regrown _ _ _⟩
  case rest =>
    obtain ⟨wi, hren⟩ : ∃ wi, wi = wc := ⟨_, rfl⟩
    subst hren
    obtain ⟨rfl, hwi⟩ := hcut
    have hCi : Below C.heap.size C wi := HWK.out.trans (hwi.mono HWK.out.size)
    have HPI := Hid.intro (HPC.out.kept' hCi)
    have t0i := keptCell hCi t0
    have HCI := Hid.intro hCi
    clear hwi hCi t0k t0q
    cases hh : hit L nm with
    | true =>
      have HKI : Hid (Keep Y2 C wi) := Keep.of HCI.out HY2C.out
      have HINS := Hid.intro (ins_hit hh)
      clear hh
      go_wp2_with fail
      have hlen : L.length = (ins L nm).length := by rw [HINS.out]
      rw [hlen]
      exact HEND.out _ _ _ _ _ _ _ _ _ _ _ _ _ _ _ _ _ _ _ _ _ _ _ _ _ _ _ _ _ _ qa qc rm wi (by rw [HINS.out]; exact HPI.out) HKI.out
    | false =>
      have HH := Hid.intro hh
      clear hh
      have hpl := pos_le L nm
      obtain ⟨sl, cl, sr, cr, op1, op2, hsrc, hn1, hn2⟩ := slice_ops HPI.out.row hpl (by omega)
      obtain ⟨iP, pi, pz0, pz1, pz2⟩ := info_parts' Tryz.info99
      have HSRC := Hid.intro hsrc
      have HF1 : Hid (∀ u ∈ (List.range (pos L nm * 4)).map (partCell L rm), u.oneCell' = true) := fun u hu => by
        obtain ⟨q, hq, rfl⟩ := List.mem_map.1 hu
        have : q < pos L nm * 4 := by simpa using hq
        exact HPI.out.one q (by omega)
      have HF2 : Hid (∀ u ∈ (List.range ((L.length - pos L nm) * 4)).map (fun q => partCell L rm (pos L nm * 4 + q)), u.oneCell' = true) := fun u hu => by
        obtain ⟨q, hq, rfl⟩ := List.mem_map.1 hu
        have : q < (L.length - pos L nm) * 4 := by simpa using hq
        exact HPI.out.one _ (by omega)
      clear hsrc
      go_upto_region 17 with fail
      refine wp_region_as (by kernel_rfl) (by kernel_rfl) [84, 85, 86, 87, 88, 89, 90, 91, 92, 93, 94, 95, 96, 97, 98, 5] (by kernel_rfl) (by kernel_rfl) (by kernel_rfl) con17 (rA wi.heap.size bt L.length (pos L nm) (.slice qa L.length qc) (.slice sl (pos L nm) cl) (.slice sr (L.length - pos L nm) cr) nm (partCell L rm)) (fun Lz st wz => Below wi.heap.size wi wz ∧ (Lz 15 = false → st 5 = .slice qa L.length qc)) ⟨(Below.refl _ _).drew, fun _ => rfl⟩ ?_ ?_
      · intro Lz st wz i o hG hL hcl hA hF hi' hl ha
        have h99 : Lz 99 = false := by
          cases h : Lz 99 with
          | false => rfl
          | true => exact absurd (hL 99 h) (by decide)
        have t0z := keptCell hG.1 t0i
        obtain _ | i := i
        · obtain rfl := Option.some.inj hi'
          have hb := below1 wz (Obj.cells #[] 99)
          refine opStep_value (v := .slice (some ⟨wz.heap.size, 0, none⟩) 0 0) (w' := wz.alloc (.cells #[] 99)) ?_ ⟨⟨hG.1.trans (hb.mono hG.1.size), hG.2⟩, ⟨wz.heap.size, rfl, hG.1.size, heap_alloc_new _ _⟩, fun q _ _ _ h => rA_kept q h hb⟩
          go_simp
        obtain _ | i := i
        · obtain rfl := Option.some.inj hi'
          have h15 : Lz 15 = false := by
            cases h : Lz 15 with
            | false => rfl
            | true =>
              have h2 := hcl 15 _ h rfl { on := 1, ground := .phase } (by simp) rfl
              have h3 : Lz 1 = false := hl
              rw [h2] at h3; cases h3
          exact opStep_value (v := st 5) (w' := wz) rfl ⟨⟨hG.1, hG.2⟩, hG.2 h15, fun q _ _ _ h => rA_kept q h (Below.refl _ _)⟩
        obtain _ | i := i
        · obtain rfl := Option.some.inj hi'
          exact opStep_value (v := st 14) (w' := wz) rfl ⟨⟨hG.1, hG.2⟩, hF 14 (by decide), fun q _ _ _ h => rA_kept q h (Below.refl _ _)⟩
        obtain _ | i := i
        · obtain rfl := Option.some.inj hi'
          have e1 : st 85 = _ := hA 1 (ha { on := 1, ground := .data } (by simp) rfl) h99
          have e2 : st 86 = _ := hA 2 (ha { on := 2, ground := .data } (by simp) rfl) h99
          exact opStep_value (op1 st wz _ rfl e1 e2) ⟨⟨hG.1, hG.2⟩, rfl, fun q _ _ _ h => rA_kept q h (Below.refl _ _)⟩
        obtain _ | i := i
        · obtain rfl := Option.some.inj hi'
          have up10 : Lz 10 = true → Lz 4 = true := fun h => hcl 10 _ h rfl { on := 4, ground := .data } (by simp) rfl
          have up14 : Lz 14 = true → Lz 10 = true := fun h => hcl 14 _ h rfl { on := 10, ground := .data } (by simp) rfl
          have up15 : Lz 15 = true → Lz 14 = true := fun h => hcl 15 _ h rfl { on := 14, ground := .data } (by simp) rfl
          have hl4 : Lz 4 = false := hl
          obtain ⟨g0, e1, hg0, ho0⟩ : qRow0 wi.heap.size (st 84) wz := hA 0 (ha { on := 0, ground := .data } (by simp) rfl) hl
          have e2 : st 87 = _ := hA 3 (ha { on := 3, ground := .data } (by simp) rfl) h99
          refine opStep_append2 (.tmp 84) (.tmp 87) 37 rfl wi.heap.size 99 iP _ 4 88 Tryz.underlying37 pi pz0 pz1 pz2 rfl (by decide) (.slice (some ⟨g0, 0, none⟩) 0 0) 0 _ e1 (own_empty' hg0 ho0) sl (pos L nm) cl _ e2 (by simp) (HSRC.out wz hG.1).1 hn1 HF1.out (by unfold maxLen; omega) (by omega) hG.1.size ?_
          intro v' w' hown hgr _
          have hrow : qRow wi.heap.size (pos L nm) (partCell L rm) v' w' := by
            unfold qRow Row; simpa using hown
          refine ⟨⟨hG.1.grown hgr hG.1.size (fun k hk => by cases hk; exact hg0), hG.2⟩, hrow, fun q hq hLq hlv hAq => rA_app q hAq (fun e _ => ?_) (fun e => absurd e hq) (fun _ hE => hE.grown hgr ho0 rfl) (fun e _ => ?_) (fun e _ => ?_)⟩
          · subst e; exact absurd hlv (by unfold live also con17; simp)
          · subst e; rw [up10 hLq] at hl4; cases hl4
          · rcases e with rfl | rfl
            · rw [up10 (up14 hLq)] at hl4; cases hl4
            · rw [up10 (up14 (up15 hLq))] at hl4; cases hl4
        obtain _ | i := i
        · obtain rfl := Option.some.inj hi'
          have e1 : st 13 = .pointer (some ⟨bt, 0, none⟩) := hF 13 (by decide)
          refine opStep_value (v := .pointer (some ⟨bt, 0, none⟩)) (w' := wz) ?_ ⟨⟨hG.1, hG.2⟩, rfl, fun q _ _ _ h => rA_kept q h (Below.refl _ _)⟩
          simp only [execOp, evalS, e1]
          go_simp
        obtain _ | i := i
        · obtain rfl := Option.some.inj hi'
          have e1 : st 89 = _ := hA 5 (ha { on := 5, ground := .data } (by simp) rfl) h99
          refine opStep_value (v := .string nm) (w' := wz) ?_ ⟨⟨hG.1, hG.2⟩, rfl, fun q _ _ _ h => rA_kept q h (Below.refl _ _)⟩
          simp only [execOp, evalS, e1]
          go_simp
        obtain _ | i := i
        · obtain rfl := Option.some.inj hi'
          have e1 : st 90 = _ := hA 6 (ha { on := 6, ground := .data } (by simp) rfl) h99
          refine opStep_value (v := .agg #[.string nm, .slice none 0 0]) (w' := wz) ?_ ⟨⟨hG.1, hG.2⟩, rfl, fun q _ _ _ h => rA_kept q h (Below.refl _ _)⟩
          simp only [execOp, List.map_toArray, List.map_cons, List.map_nil, evalS, e1]
          go_simp
        obtain _ | i := i
        · obtain rfl := Option.some.inj hi'
          have e1 : st 91 = _ := hA 7 (ha { on := 7, ground := .data } (by simp) rfl) h99
          refine opStep_value (v := .agg #[.string nm, .slice none 0 0, .slice none 0 0, .slice none 0 0]) (w' := wz) ?_ ⟨⟨hG.1, hG.2⟩, rfl, fun q _ _ _ h => rA_kept q h (Below.refl _ _)⟩
          simp only [execOp, List.map_toArray, List.map_cons, List.map_nil, evalS, e1]
          go_simp
        obtain _ | i := i
        · obtain rfl := Option.some.inj hi'
          have e1 : st 92 = _ := hA 8 (ha { on := 8, ground := .data } (by simp) rfl) h99
          have hb := below1 wz (Obj.cells #[.string nm, .slice none 0 0, .slice none 0 0, .slice none 0 0] 99)
          refine opStep_value (v := .slice (some ⟨wz.heap.size, 0, none⟩) 1 1) (w' := wz.alloc (.cells #[.string nm, .slice none 0 0, .slice none 0 0, .slice none 0 0] 99)) ?_ ⟨⟨hG.1.trans (hb.mono hG.1.size), hG.2⟩, ⟨wz.heap.size, rfl, hG.1.size, heap_alloc_new _ _⟩, fun q _ _ _ h => rA_kept q h hb⟩
          simp only [execOp, List.map_toArray, List.map_cons, List.map_nil, evalS, e1]
          go_simp
        obtain _ | i := i
        · obtain rfl := Option.some.inj hi'
          have up10 : Lz 10 = true → Lz 4 = true := fun h => hcl 10 _ h rfl { on := 4, ground := .data } (by simp) rfl
          have up14 : Lz 14 = true → Lz 10 = true := fun h => hcl 14 _ h rfl { on := 10, ground := .data } (by simp) rfl
          have up15 : Lz 15 = true → Lz 14 = true := fun h => hcl 15 _ h rfl { on := 14, ground := .data } (by simp) rfl
          have hl10 : Lz 10 = false := hl
          have p4 : Lz 4 = true := ha { on := 4, ground := .data } (by simp) rfl
          have e1 : Row wz wi.heap.size 99 4 (st 88) (pos L nm) (partCell L rm) := hA 4 p4 hl
          obtain ⟨b9, e2, hb9, ho9⟩ : qEl wi.heap.size nm (st 93) wz := hA 9 (ha { on := 9, ground := .data } (by simp) rfl) hl
          refine opStep_append2 (.tmp 88) (.tmp 93) 37 rfl wi.heap.size 99 iP _ 4 88 Tryz.underlying37 pi pz0 pz1 pz2 rfl (by decide) (st 88) (pos L nm) _ rfl e1 (some ⟨b9, 0, none⟩) 1 1 (newC nm) e2 rfl (blk_news ho9) (fun h => by cases h) (by intro u hu; simp [newC] at hu; rcases hu with rfl | rfl <;> rfl) (by unfold maxLen; omega) (by omega) hG.1.size ?_
          intro v' w' hown hgr _
          have hrow : qRow wi.heap.size ((pos L nm) + 1) (insCell (partCell L rm) (pos L nm) (newC nm)) v' w' := by
            unfold qRow Row; rw [ins_cells1]; exact hown
          refine ⟨⟨hG.1.grown hgr hG.1.size (fun k hk => (e1.lt hk).1), hG.2⟩, hrow, fun q hq hLq hlv hAq => rA_app q hAq (fun e _ => ?_) (fun e _ => ?_) (fun e _ => ?_) (fun e => absurd e hq) (fun e _ => ?_)⟩
          · subst e
            have hlv' : (decide (4 = 10) || Lz 4) = false := hlv
            rw [p4] at hlv'; cases hlv'
          · subst e; exact absurd hlv (by unfold live also con17; simp)
          · subst e; exact absurd hlv (by unfold live also con17; simp)
          · rcases e with rfl | rfl
            · rw [up14 hLq] at hl10; cases hl10
            · rw [up14 (up15 hLq)] at hl10; cases hl10
        obtain _ | i := i
        · obtain rfl := Option.some.inj hi'
          have h15 : Lz 15 = false := by
            cases h : Lz 15 with
            | false => rfl
            | true =>
              have h2 := hcl 15 _ h rfl { on := 11, ground := .phase } (by simp) rfl
              have h3 : Lz 11 = false := hl
              rw [h2] at h3; cases h3
          exact opStep_value (v := st 5) (w' := wz) rfl ⟨⟨hG.1, hG.2⟩, hG.2 h15, fun q _ _ _ h => rA_kept q h (Below.refl _ _)⟩
        obtain _ | i := i
        · obtain rfl := Option.some.inj hi'
          exact opStep_value (v := st 14) (w' := wz) rfl ⟨⟨hG.1, hG.2⟩, hF 14 (by decide), fun q _ _ _ h => rA_kept q h (Below.refl _ _)⟩
        obtain _ | i := i
        · obtain rfl := Option.some.inj hi'
          have e1 : st 95 = _ := hA 11 (ha { on := 11, ground := .data } (by simp) rfl) h99
          have e2 : st 96 = _ := hA 12 (ha { on := 12, ground := .data } (by simp) rfl) h99
          exact opStep_value (op2 st wz _ rfl e1 e2) ⟨⟨hG.1, hG.2⟩, rfl, fun q _ _ _ h => rA_kept q h (Below.refl _ _)⟩
        obtain _ | i := i
        · obtain rfl := Option.some.inj hi'
          have up10 : Lz 10 = true → Lz 4 = true := fun h => hcl 10 _ h rfl { on := 4, ground := .data } (by simp) rfl
          have up14 : Lz 14 = true → Lz 10 = true := fun h => hcl 14 _ h rfl { on := 10, ground := .data } (by simp) rfl
          have up15 : Lz 15 = true → Lz 14 = true := fun h => hcl 15 _ h rfl { on := 14, ground := .data } (by simp) rfl
          have hl14 : Lz 14 = false := hl
          have p10 : Lz 10 = true := ha { on := 10, ground := .data } (by simp) rfl
          have p4 : Lz 4 = true := up10 p10
          have e1 : Row wz wi.heap.size 99 4 (st 94) ((pos L nm) + 1) (insCell (partCell L rm) (pos L nm) (newC nm)) := hA 10 p10 hl
          have e2 : st 97 = _ := hA 13 (ha { on := 13, ground := .data } (by simp) rfl) h99
          refine opStep_append2 (.tmp 94) (.tmp 97) 37 rfl wi.heap.size 99 iP _ 4 88 Tryz.underlying37 pi pz0 pz1 pz2 rfl (by decide) (st 94) ((pos L nm) + 1) _ rfl e1 sr (L.length - (pos L nm)) cr _ e2 (by simp) (HSRC.out wz hG.1).2 hn2 HF2.out (by unfold maxLen; omega) (by omega) hG.1.size ?_
          intro v' w' hown hgr _
          have hrow : qRow wi.heap.size (L.length + 1) (insCell (partCell L rm) (pos L nm) (newC nm)) v' w' := by
            unfold qRow Row; rw [ins_cells2 _ _ hpl]
            rw [show (pos L nm) + 1 + (L.length - (pos L nm)) = L.length + 1 by omega] at hown; exact hown
          refine ⟨⟨hG.1.grown hgr hG.1.size (fun k hk => (e1.lt hk).1), hG.2⟩, hrow, fun q hq hLq hlv hAq => rA_app q hAq (fun e _ => ?_) (fun e _ => ?_) (fun e _ => ?_) (fun e _ => ?_) (fun e _ => ?_)⟩
          · subst e
            have hlv' : (decide (4 = 14) || Lz 4) = false := hlv
            rw [p4] at hlv'; cases hlv'
          · subst e
            have hlv' : (decide (10 = 14) || Lz 10) = false := hlv
            rw [p10] at hlv'; cases hlv'
          · subst e
            have hlv' : (decide (10 = 14) || Lz 10) = false := hlv
            rw [p10] at hlv'; cases hlv'
          · subst e; exact absurd hlv (by unfold live also con17; simp)
          · rcases e with rfl | rfl
            · exact absurd rfl hq
            · rw [up15 hLq] at hl14; cases hl14
        obtain _ | i := i
        · obtain rfl := Option.some.inj hi'
          exact opStep_value (v := st 98) (w' := wz) rfl ⟨⟨hG.1, fun h => by unfold also at h; simp at h⟩, hA 14 (ha { on := 14, ground := .data } (by simp) rfl) h99, fun q _ _ _ h => rA_kept q h (Below.refl _ _)⟩
        · exfalso
          have hlen : i + 1 + 1 + 1 + 1 + 1 + 1 + 1 + 1 + 1 + 1 + 1 + 1 + 1 + 1 + 1 + 1 < 16 := (List.getElem?_eq_some_iff.1 hi').1
          omega
      · intro Lz st wz hG hL hall hA
        have h99 : Lz 99 = false := by
          cases h : Lz 99 with
          | false => rfl
          | true => exact absurd (hL 99 h) (by decide)
        have hR : Row wz wi.heap.size 99 4 (st 5) (L.length + 1) (insCell (partCell L rm) (pos L nm) (newC nm)) := hA 15 (hall 15 (by decide)) h99
        have hY2i : ∀ b, Y2 b → b < wi.heap.size := fun b hb => Nat.lt_of_lt_of_le (HY2C.out b hb) HCI.out.size
        obtain ⟨r1, r2⟩ := HPI.out.put HH.out HSM.out (by unfold maxLen; omega) hY2i (hR.base (Nat.zero_le _)) ⟨hG.1.os, hG.1.tape, hG.1.output, hG.1.size, fun k hk _ => hG.1.block k hk⟩ (.inr (by
          rcases hR.shape with ⟨-, h0⟩ | ⟨gz, cz, hz, hbz, -, -⟩
          · omega
          · exact ⟨gz, by rw [hz]; rfl, hbz⟩))
        obtain ⟨va, vc, e5, -⟩ := hR.slice
        have hil := ins_len HH.out
        rw [e5] at r1
        rw [← hil] at r1 e5
        obtain ⟨rj, hrj⟩ : ∃ rj, Parts Y2 wz (.slice va (ins L nm).length vc) (ins L nm) rj := ⟨_, r1⟩
        have HFIN : Hid (Parts Y2 wz (.slice va (ins L nm).length vc) (ins L nm) rj ∧ Keep Y2 C wz) := ⟨hrj, (Keep.of HCI.out HY2C.out).trans r2⟩
        simp only [putAll, Act.put, List.setIfInBounds_toArray, List.set_cons_succ, List.set_cons_zero]
        rw [e5]
        clear hA hall hL h99 hR hG r1 r2 e5 hil hY2i hrj
        try go_wp2_with fail
        exact HEND.out _ _ _ _ _ _ _ _ _ _ _ _ _ _ _ _ _ _ _ _ _ _ _ _ _ _ _ _ _ _ va vc rj wz HFIN.out.1 HFIN.out.2
end Go.Proofs.YtjjggefmmeminabGreat
