import Derived.Test.YtjjggefmmeminacGtMvP
import Derived.Test.YtjjggefmmeminacJGq
import Derived.Test.YtjjggefmmeminacRgSame
import Derived.Test.YtjjggefmmeminacPieces
import Derived.Deep.CutRange
namespace Go.Proofs.Ytjjggefmmeminac
open Go.RowKit Go.Sort Go.PlainAid
theorem servCell_get {V:Nat→LServ} {n j:Nat} (h:j < n * 3):((List.range (n * 3)).map (servCell V))[j]? = some (servCell V j):=by
 rw [List.getElem?_map,List.getElem?_range h]; rfl
theorem ServsAt.news {w:World} {a:Option Addr} {n:Nat} {V:Nat→LServ} (h:ServsAt w a n V):∀ ad,a=some ad→∀ j u,((List.range (n * 3)).map (servCell V))[j]? = some u→w.cell? (ad.add j)=some u:=by
 intro ad ha j u hu
 by_cases hj:j < n * 3
 ·rw [servCell_get hj] at hu
  obtain ⟨b,o,ha',hs⟩:=h.2 (j / 3) (by omega)
  rw [ha] at ha'
  cases ha'
  rw [add3]
  injection hu with hu
  subst hu
  have e:j=j / 3 * 3∨j=j / 3 * 3 + 1∨j=j / 3 * 3 + 2:=by omega
  generalize j / 3=i at *
  rcases e with e | e | e
  ·subst e; rw [servCell0]; exact hs.c0
  ·subst e; rw [servCell1,← Nat.add_assoc]; exact hs.c1
  ·subst e; rw [servCell2,← Nat.add_assoc]; exact hs.c2
 ·rw [List.getElem?_eq_none (by simp; omega)] at hu
  cases hu
theorem servCell_one (V:Nat→LServ) (j:Nat):(servCell V j).oneCell'=true:=by
 unfold servCell
 split
 ·rfl
 ·split <;> rfl
theorem mv_build (w:World):(Instr.buildSlice 22 0 #[]).run Try.prog w = .ok (.slice (some ⟨w.heap.size,0,none⟩) 0 0) (w.alloc (.cells #[] 47)):=by kernel_rfl
theorem mv_row (w:World) (N:Nat) (f:Nat→Value) (hN:N≤w.heap.size):Row (w.alloc (.cells #[] 47)) N 47 3 (.slice (some ⟨w.heap.size,0,none⟩) 0 0) 0 f :=
 ⟨rfl,.inr ⟨w.heap.size,0,#[],rfl,hN,heap_alloc_new _ _,Nat.le_refl _,Nat.zero_le _,rfl,rfl⟩⟩
theorem mv_put {w:World} {B n g cap c0:Nat} {V:Nat→LServ} {sx sy:LServ} (h:Row w B 47 3 (.slice (some ⟨g,0,none⟩) n cap) n (servCell V)) :
  Row (((w.setCell ⟨g,c0 * 3,none⟩ (.slice sx.ta sx.nt sx.tcap)).setCell ⟨g,c0 * 3 + 1,none⟩ (.slice sx.ca sx.nc sx.ccap)).setCell ⟨g,c0 * 3 + 2,none⟩ (.slice sx.xa sx.nx sx.xcap)) B 47 3 (.slice (some ⟨g,0,none⟩) n cap) n (servCell (mvV V n c0 sx sy)):=by
 have h1:=((h.set (c0 * 3) (.slice sx.ta sx.nt sx.tcap)).set (c0 * 3 + 1) (.slice sx.ca sx.nc sx.ccap)).set (c0 * 3 + 2) (.slice sx.xa sx.nx sx.xcap)
 refine h1.congr fun j hj=>?_
 have e:j=j / 3 * 3∨j=j / 3 * 3 + 1∨j=j / 3 * 3 + 2:=by omega
 have hjn:j / 3 < n:=by omega
 generalize j / 3=i at *
 have hmv:mvV V n c0 sx sy i=if i=c0 then sx else V i:=by
  unfold mvV
  rw [if_neg (show ¬ i=n by omega)]
 rcases e with rfl | rfl | rfl
 ·rw [servCell0,servCell0,hmv]
  by_cases hc:i=c0
  ·subst hc; simp
  ·rw [if_neg (by omega),if_neg (by omega),if_neg (by omega),if_neg hc]
 ·rw [servCell1,servCell1,hmv]
  by_cases hc:i=c0
  ·subst hc; simp
  ·rw [if_neg (by omega),if_neg (by omega),if_neg (by omega),if_neg hc]
 ·rw [servCell2,servCell2,hmv]
  by_cases hc:i=c0
  ·subst hc; simp
  ·rw [if_neg (by omega),if_neg (by omega),if_neg (by omega),if_neg hc]
set_option maxRecDepth 100000 in
set_option maxHeartbeats 80000000 in
theorem mv_end {la:Addr} {n cap c0 ba bx bz d pcap:Nat} {V:Nat→LServ} {sx sy:LServ} {type key:ByteArray} {pa:Option Addr} {ps:List (Pick d)} {w C:World}
  (HRun:Hid (RunOk 8)) (HS:Hid (ServsAt w (some la) n V)) (HP:Hid (PicksAt w d pa ps)) (hcap:ps.length≤pcap) (hs0:Small type) (hs1:Small key) (HB:Hid (Below w.heap.size w C)) (hc0:c0 < n) (hn:n < 5)
  (HA:Hid (C.heap[ba]? = some (.cells #[.string type,.string key,.slice pa ps.length pcap] 25 (0,0)))) (HX:Hid (C.heap[bx]? = some (.cells #[.slice sx.ta sx.nt sx.tcap,.slice sx.ca sx.nc sx.ccap,.slice sx.xa sx.nx sx.xcap] 47 (0,0)))) (HZ:Hid (C.heap[bz]? = some (.cells #[.slice sy.ta sy.nt sy.tcap,.slice sy.ca sy.nc sy.ccap,.slice sy.xa sy.nx sy.xcap] 47 (0,0))))
  (HXO:Hid (ServOk C sx)) (HZO:Hid (ServOk C sy)) (HEQ:Hid (meanE (n + 1) (mvV V n c0 sx sy) d type key ps=meanE n V d type key ps∧meanG (n + 1) (mvV V n c0 sx sy) d type key ps=meanG n V d type key ps))
  (v1 v3 v4 v6 v7 v8 v9 v10 v11 v14 v15 v16 v17 v18 v19 v20 v21 v22 v23 v24 v25 v26 v27 v28 v29 v30 v31 v32 v33 v34 v35 v36 v37 v38 v39 v40 v41 v42 v43 v44 v45 v46 v47 v48 v49 v50 v51 v52 v53 v54 v55 v56 v57 v58 v59 v60 v61 v62 v63 v64 v65 v66 v67 v68 v69 v70 v71 v72 v73 v74 v75 v76 v77 v78 v79 v80 v81 v82 v83 v84 v85 v86 v87 v88 v89 v90 v91 v92 v93 v94 v95 v96 v97 v98 v99 v100 v101 v102 v103 v104 v105 v106 v107 v108 v109 v110 v111 v112 v113 v114 v115 v116 v117 v118 v119 v120 v121 v122 v123 v124 v125 v126 v127 v128 v129 v130 v131 v132 v133 v134 v135 v136 v137 v138 v139 v140 v141 v142 v143 v144 v145 v146 v147 v148 v149 v150 v151 v152 v153 v154 v155 v156 v157 v158 v159 v160 v161 v162 v163 v164 v165 v166 v167 v168 v169 v170 v171 v172 v173 v174 v175 v176 v177 v178 v179 v180 v181 v182 v183 v184 v185 v186:Value) :
  Code.wp Try.prog (piece Try.f6 (seqOf 26)) (bodyPost Try.prog Try.f6 fun e w'=>e = .returned (.bool true)∧Below w.heap.size w w') ⟨#[.slice (some la) n cap,v1,.int .i64 (c0:Int),v3,v4,.pointer (some ⟨ba,0,none⟩),v6,v7,v8,v9,v10,v11,.pointer (some ⟨bx,0,none⟩),.pointer (some ⟨bz,0,none⟩),v14,v15,v16,v17,v18,v19,v20,v21,v22,v23,v24,v25,v26,v27,v28,v29,v30,v31,v32,v33,v34,v35,v36,v37,v38,v39,v40,v41,v42,v43,v44,v45,v46,v47,v48,v49,v50,v51,v52,v53,v54,v55,v56,v57,v58,v59,v60,v61,v62,v63,v64,v65,v66,v67,v68,v69,v70,v71,v72,v73,v74,v75,v76,v77,v78,v79,v80,v81,v82,v83,v84,v85,v86,v87,v88,v89,v90,v91,v92,v93,v94,v95,v96,v97,v98,v99,v100,v101,v102,v103,v104,v105,v106,v107,v108,v109,v110,v111,v112,v113,v114,v115,v116,v117,v118,v119,v120,v121,v122,v123,v124,v125,v126,v127,v128,v129,v130,v131,v132,v133,v134,v135,v136,v137,v138,v139,v140,v141,v142,v143,v144,v145,v146,v147,v148,v149,v150,v151,v152,v153,v154,v155,v156,v157,v158,v159,v160,v161,v162,v163,v164,v165,v166,v167,v168,v169,v170,v171,v172,v173,v174,v175,v176,v177,v178,v179,v180,v181,v182,v183,v184,v185,v186],[]⟩ C:=by
 conv=>arg 2; whnf
 dsimp only
 obtain ⟨i0,hi0,hz0,hz1,hz2⟩:=info_parts' Try.info47
 have hbs:=mv_build
 have HR0:=Hid.intro (mv_row C C.heap.size (servCell V) (Nat.le_refl _))
 have hB0:=below1 C (.cells #[] 47)
 have HN0:=Hid.intro ((HS.out.kept (HB.out.trans (hB0.mono HB.out.size))).news)
 have hC0:C.heap.size≤(C.alloc (.cells #[] 47)).heap.size:=hB0.size
 have HB0:=Hid.intro hB0
 clear hB0
 go_wp2_with (at_builtin; refine wpList_append_any _ rfl _ _ 22 rfl C.heap.size 47 i0 _ 3 72 Try.underlying22 hi0 hz0 hz1 hz2 rfl (by decide) _ 0 _ rfl HR0.out (some la) n cap ((List.range (n * 3)).map (servCell V)) rfl (by simp) HN0.out (fun h=>by cases h) (by intro u hu; obtain ⟨j,-,rfl⟩:=List.mem_map.1 hu; exact servCell_one _ _) (by unfold maxLen; omega) (by omega) hC0 ?_)
 intro v1 w1 hown hg _
 have hR1:Row w1 C.heap.size 47 3 v1 n (servCell V):=by
  unfold Row
  simpa using hown
 have hB1:Below C.heap.size C w1:=HB0.out.grown hg hC0 (fun k hk=>(HR0.out.lt hk).1)
 rcases hR1.shape with ⟨-,h9⟩ | ⟨g,c1,hv,hgb,hc1,-⟩
 ·omega
 subst hv
 have hX1:=(hB1.block _ (lt_of_block HX.out)).trans HX.out
 have hgx:g≠bx:=fun e=>by have:=lt_of_block HX.out; omega
 have hgz:g≠bz:=fun e=>by have:=lt_of_block HZ.out; omega
 obtain ⟨x0,x1,x2⟩:w1.cell? ⟨bx,0,none⟩=some (.slice sx.ta sx.nt sx.tcap)∧w1.cell? ⟨bx,1,none⟩=some (.slice sx.ca sx.nc sx.ccap)∧w1.cell? ⟨bx,2,none⟩=some (.slice sx.xa sx.nx sx.xcap):=by simp [World.cell?,hX1]
 have r0:=hR1.cell (j:=c0 * 3) (by omega)
 have r1:=hR1.cell (j:=c0 * 3 + 1) (by omega)
 have r2:=hR1.cell (j:=c0 * 3 + 2) (by omega)
 have f0:=hR1.free (c0 * 3)
 have f1:=hR1.free (c0 * 3 + 1)
 have f2:=hR1.free (c0 * 3 + 2)
 have hci:(c0:Int) < (n:Int):=by omega
 have hci0:(0:Int)≤(c0:Int):=by omega
 have HR2:=Hid.intro (mv_put (c0:=c0) (sx:=sx) (sy:=sy) hR1)
 have HB2:Hid (Below C.heap.size C (((w1.setCell ⟨g,c0 * 3,none⟩ (.slice sx.ta sx.nt sx.tcap)).setCell ⟨g,c0 * 3 + 1,none⟩ (.slice sx.ca sx.nc sx.ccap)).setCell ⟨g,c0 * 3 + 2,none⟩ (.slice sx.xa sx.nx sx.xcap))):=Hid.intro (((hB1.setCell hgb _).setCell hgb _).setCell hgb _)
 clear hown hg hR1 hB1 HR0 HN0 HB0 hC0 hX1 hbs
 go_upto_region 28 with fail
 clear x0 x1 x2 r0 r1 r2 f0 f1 f2 hci hci0
 generalize ((w1.setCell ⟨g,c0 * 3,none⟩ (.slice sx.ta sx.nt sx.tcap)).setCell ⟨g,c0 * 3 + 1,none⟩ (.slice sx.ca sx.nc sx.ccap)).setCell ⟨g,c0 * 3 + 2,none⟩ (.slice sx.xa sx.nx sx.xcap)=w2 at *
 have hZ2:=(HB2.out.block _ (lt_of_block HZ.out)).trans HZ.out
 obtain ⟨z0,z1,z2⟩:w2.cell? ⟨bz,0,none⟩=some (.slice sy.ta sy.nt sy.tcap)∧w2.cell? ⟨bz,1,none⟩=some (.slice sy.ca sy.nc sy.ccap)∧w2.cell? ⟨bz,2,none⟩=some (.slice sy.xa sy.nx sy.xcap):=by simp [World.cell?,hZ2]
 have hC2:C.heap.size≤w2.heap.size:=HB2.out.size
 have HR3:=Hid.intro (HR2.out.kept (below1 w2 (Obj.cells #[.slice sy.ta sy.nt sy.tcap,.slice sy.ca sy.nc sy.ccap,.slice sy.xa sy.nx sy.xcap] 47)))
 have hC3:C.heap.size≤(w2.alloc (Obj.cells #[.slice sy.ta sy.nt sy.tcap,.slice sy.ca sy.nc sy.ccap,.slice sy.xa sy.nx sy.xcap] 47)).heap.size:=Nat.le_trans hC2 (below1 w2 _).size
 have HB3:Hid (Below C.heap.size C (w2.alloc (Obj.cells #[.slice sy.ta sy.nt sy.tcap,.slice sy.ca sy.nc sy.ccap,.slice sy.xa sy.nx sy.xcap] 47))):=Hid.intro (HB2.out.trans ((below1 w2 _).mono hC2))
 have HSN:Hid ((List.range ((n + 1) * 3)).map (servCell (mvV V n c0 sx sy))=(List.range (n * 3)).map (servCell (mvV V n c0 sx sy)) ++ [.slice sy.ta sy.nt sy.tcap,.slice sy.ca sy.nc sy.ccap,.slice sy.xa sy.nx sy.xcap]):=Hid.intro (by
  have e:mvV V n c0 sx sy n=sy:=by unfold mvV; rw [if_neg (by omega),if_pos rfl]
  rw [servCells_snoc,e])
 clear hZ2
 go_wp2_with (at_builtin; refine wpList_append_any _ rfl _ _ 22 rfl C.heap.size 47 i0 _ 3 72 Try.underlying22 hi0 hz0 hz1 hz2 rfl (by decide) _ n _ rfl HR3.out (some ⟨w2.heap.size,0,none⟩) 1 1 [.slice sy.ta sy.nt sy.tcap,.slice sy.ca sy.nc sy.ccap,.slice sy.xa sy.nx sy.xcap] rfl rfl (alloc_news w2 #[.slice sy.ta sy.nt sy.tcap,.slice sy.ca sy.nc sy.ccap,.slice sy.xa sy.nx sy.xcap] _) (fun h=>by cases h) (by intro u hu; simp at hu; rcases hu with rfl | rfl | rfl <;> rfl) (by unfold maxLen; omega) (by omega) hC3 ?_)
 intro v4 w4 hown hg _
 have hR4:Row w4 C.heap.size 47 3 v4 (n + 1) (servCell (mvV V n c0 sx sy)):=by
  unfold Row
  rw [HSN.out]; exact hown
 have hB4:Below C.heap.size C w4:=HB3.out.grown hg hC3 (fun k hk=>(HR3.out.lt hk).1)
 have hw4:Below w.heap.size w w4:=HB.out.trans (hB4.mono HB.out.size)
 obtain ⟨qa,qc,hv4,hS4⟩:=row_servs hR4 (by unfold maxLen; omega) (fun i hi=>by
  unfold mvV
  by_cases e1:i=c0
  ·rw [if_pos e1]; exact HXO.out.kept hB4
  ·rw [if_neg e1]
   by_cases e2:i=n
   ·rw [if_pos e2]; exact HZO.out.kept hB4
   ·rw [if_neg e2]
    obtain ⟨_,_,_,hs⟩:=(HS.out.kept hw4).2 i (by omega)
    exact hs.ok)
 subst hv4
 have hA4:=(hB4.block _ (lt_of_block HA.out)).trans HA.out
 obtain ⟨a0,a1,a2⟩:w4.cell? ⟨ba,0,none⟩=some (.string type)∧w4.cell? ⟨ba,1,none⟩=some (.string key)∧w4.cell? ⟨ba,2,none⟩=some (.slice pa ps.length pcap):=by simp [World.cell?,hA4]
 have hcl:=HRun.out (some la) n cap V d type key pa pcap ps w4 (HS.out.kept hw4) (HP.out.kept hw4) hcap hs0 hs1
 have HS4:=Hid.intro hS4
 have HW4:=Hid.intro hw4
 have HP4:=Hid.intro (HP.out.kept hw4)
 clear hown hg hR4 hB4 hw4 hS4 hA4 HR2 HB2 HR3 HB3 HSN hC2 hC3 z0 z1 z2 HA HX HZ HXO HZO HS HP HB hgx hgz
 have HRS:Hid (∀ w5,Below w4.heap.size w4 w5→Calls Try.prog 8 #[.slice qa (n + 1) qc,.agg #[.string type,.string key,.slice pa ps.length pcap]] w5 fun e w'=>RunEnd d (meanG n V d type key ps) (reqs (n + 1) (mvV V n c0 sx sy) d type key ps) (meanE n V d type key ps) e w'∧Below w5.heap.size w5 w'):=Hid.intro fun w5 h5=>by
  have:=HRun.out qa (n + 1) qc (mvV V n c0 sx sy) d type key pa pcap ps w5 (HS4.out.kept h5) (HP4.out.kept h5) hcap hs0 hs1
  rw [HEQ.out.1,HEQ.out.2] at this
  exact this
 clear HRun HEQ HS4 HP4
 generalize reqs (n + 1) (mvV V n c0 sx sy) d type key ps=R2 at *
 generalize meanG n V d type key ps=M at *
 generalize meanE n V d type key ps=x at *
 generalize reqs n V d type key ps=R at *
 go_wp2_with fail
 refine hcl.mono ?_
 clear hcl
 rintro e w5 ⟨⟨va5,vc5,qa5,qc5,rfl,-,-,hG5,-⟩,hw5⟩
 have hcl:=HRS.out w5 hw5
 have HG5:=Hid.intro hG5
 have HW5:=Hid.intro (HW4.out.trans (hw5.mono HW4.out.size))
 have a0:=keptCell hw5 a0
 have a1:=keptCell hw5 a1
 have a2:=keptCell hw5 a2
 clear hG5 hw5 HRS HW4
 go_wp2_with fail
 refine hcl.mono ?_
 clear hcl a0 a1 a2
 rintro e w6 ⟨⟨va6,vc6,qa6,qc6,rfl,-,-,hG6,-⟩,hw6⟩
 have hcl:=sameGot_any d va5 va6 vc5 vc6 M w6 (HG5.out.kept hw6) hG6
 have HW6:=Hid.intro (HW5.out.trans (hw6.mono HW5.out.size))
 clear hG6 hw6 HG5 HW5
 go_wp2_with fail
 refine hcl.mono ?_
 clear hcl
 rintro e w7 ⟨rfl,hw7⟩
 have HW7:=Hid.intro (HW6.out.trans (hw7.mono HW6.out.size))
 clear hw7 HW6
 go_wp2_with fail
 go_ret
 exact ⟨rfl,HW7.out⟩
end Go.Proofs.Ytjjggefmmeminac
