import Derived.Test.YtjjggefmmeminacGtMvM
import Derived.Test.YtjjggefmmeminacGtMvReg
import Derived.Test.YtjjggefmmeminacGrMem
import Derived.Test.YtjjggefmmeminacPieces
import Derived.Deep.CutBlock
import Derived.Deep.CutRange
namespace Go.Proofs.Ytjjggefmmeminac
open Go.RowKit Go.Sort Go.PlainAid
def cutK (T:Nat→LType) (m:Nat):Nat→ByteArray→Option Int
 | 0,_=>none
 | k + 1,u=>if eqs u (T k).name then some ((min m (T k).nf:Nat):Int) else cutK T m k u
theorem cutK_hit {T:Nat→LType} {m:Nat} : ∀ {n:Nat},(∀ i j,i < j→j < n→(T i).name≠(T j).name)→∀ {j},j < n→cutK T m n (T j).name=some ((min m (T j).nf:Nat):Int)
 | 0,_,_,hj=>absurd hj (Nat.not_lt_zero _)
 | n + 1,h,j,hj=>by
  unfold cutK
  by_cases e:j=n
  ·subst e; rw [if_pos (eqs_iff.2 rfl)]
  ·rw [if_neg (by rw [eqs_iff]; exact h j n (by omega) (by omega))]
   exact cutK_hit (fun a b h1 h2=>h a b h1 (by omega)) (by omega)
theorem cutK_le {T:Nat→LType} {m:Nat} : ∀ (n:Nat) (u:ByteArray),∃ c:Nat,(cutK T m n u).getD 0=(c:Int)∧c≤m
 | 0,_=>⟨0,rfl,Nat.zero_le _⟩
 | n + 1,u=>by
  unfold cutK
  by_cases e:eqs u (T n).name=true
  ·rw [if_pos e]; exact ⟨_,rfl,Nat.min_le_left ..⟩
  ·rw [if_neg e]; exact cutK_le n u
def xTs (T:Nat→LType) (m:Nat) (j:Nat):LType:=xTy (T j) (min m (T j).nf)
def yTs (T:Nat→LType) (m:Nat) (j:Nat):LType:=yTy (T j) (min m (T j).nf)
def xXs (X:Nat→LThing) (c:ByteArray→Nat) (i:Nat):LThing:=xTh (X i) (c (X i).type)
def yXs (X:Nat→LThing) (c:ByteArray→Nat) (i:Nat):LThing:=yTh (X i) (c (X i).type)
theorem Try.info59:(Try.prog.info? 59).map (fun i=>(i.zero,i.size,i.bytes))=some (some (.agg #[.string ⟨#[]⟩,.string ⟨#[]⟩,.slice none 0 0]),3,56):=by kernel_rfl
set_option maxRecDepth 100000 in
set_option maxHeartbeats 80000000 in
theorem mv_min {Q:Exit→Act→World→Prop} {m bt nf fc:Nat} {fa:Option Addr} {C:World} (HC:Hid (C.cell? ⟨bt,1,none⟩=some (.slice fa nf fc)))
  (v0 v1 v2 v4 v5 v6 v7 v8 v9 v10 v11 v12 v13 v14 v15 v17 v18 v19 v20 v21 v22 v23 v24 v25 v26 v27 v28 v29 v30 v31 v32 v33 v34 v35 v36 v37 v38 v39 v40 v41 v42 v43 v44 v45 v46 v47 v48 v49 v50 v51 v52 v53 v54 v55 v56 v57 v58 v59 v60 v61 v62 v63 v64 v65 v66 v67 v68 v69 v70 v71 v72 v73 v74 v75 v76 v77 v78 v79 v80 v81 v82 v83 v84 v85 v86 v87 v88 v89 v90 v91 v92 v93 v94 v95 v96 v97 v98 v99 v100 v101 v102 v103 v104 v105 v106 v107 v108 v109 v110 v111 v112 v113 v114 v115 v116 v117 v118 v119 v120 v121 v122 v123 v124 v125 v126 v127 v128 v129 v130 v131 v132 v133 v134 v135 v136 v137 v138 v139 v140 v141 v142 v143 v144 v145 v146 v147 v148 v149 v150 v151 v152 v153 v154 v155 v156 v157 v158 v159 v160 v161 v162 v163 v164 v165 v166 v167 v168 v169 v170 v171 v172 v173 v174 v175 v176 v177 v178 v179 v180 v181 v182 v183 v184 v185 v186:Value)
  (HEND:Hid (∀ (u80 u81 u82 u83 u84:Value),Q .normal ⟨#[v0,v1,v2,.int .i64 (m:Int),v4,v5,v6,v7,v8,v9,v10,v11,v12,v13,v14,v15,.pointer (some ⟨bt,0,none⟩),.int .i64 ((min m nf:Nat):Int),v18,v19,v20,v21,v22,v23,v24,v25,v26,v27,v28,v29,v30,v31,v32,v33,v34,v35,v36,v37,v38,v39,v40,v41,v42,v43,v44,v45,v46,v47,v48,v49,v50,v51,v52,v53,v54,v55,v56,v57,v58,v59,v60,v61,v62,v63,v64,v65,v66,v67,v68,v69,v70,v71,v72,v73,v74,v75,v76,v77,v78,v79,u80,u81,u82,u83,u84,v85,v86,v87,v88,v89,v90,v91,v92,v93,v94,v95,v96,v97,v98,v99,v100,v101,v102,v103,v104,v105,v106,v107,v108,v109,v110,v111,v112,v113,v114,v115,v116,v117,v118,v119,v120,v121,v122,v123,v124,v125,v126,v127,v128,v129,v130,v131,v132,v133,v134,v135,v136,v137,v138,v139,v140,v141,v142,v143,v144,v145,v146,v147,v148,v149,v150,v151,v152,v153,v154,v155,v156,v157,v158,v159,v160,v161,v162,v163,v164,v165,v166,v167,v168,v169,v170,v171,v172,v173,v174,v175,v176,v177,v178,v179,v180,v181,v182,v183,v184,v185,v186],[]⟩ C)) :
  Code.wp Try.prog (piece Try.f6 (regOf 14)) Q ⟨#[v0,v1,v2,.int .i64 (m:Int),v4,v5,v6,v7,v8,v9,v10,v11,v12,v13,v14,v15,.pointer (some ⟨bt,0,none⟩),v17,v18,v19,v20,v21,v22,v23,v24,v25,v26,v27,v28,v29,v30,v31,v32,v33,v34,v35,v36,v37,v38,v39,v40,v41,v42,v43,v44,v45,v46,v47,v48,v49,v50,v51,v52,v53,v54,v55,v56,v57,v58,v59,v60,v61,v62,v63,v64,v65,v66,v67,v68,v69,v70,v71,v72,v73,v74,v75,v76,v77,v78,v79,v80,v81,v82,v83,v84,v85,v86,v87,v88,v89,v90,v91,v92,v93,v94,v95,v96,v97,v98,v99,v100,v101,v102,v103,v104,v105,v106,v107,v108,v109,v110,v111,v112,v113,v114,v115,v116,v117,v118,v119,v120,v121,v122,v123,v124,v125,v126,v127,v128,v129,v130,v131,v132,v133,v134,v135,v136,v137,v138,v139,v140,v141,v142,v143,v144,v145,v146,v147,v148,v149,v150,v151,v152,v153,v154,v155,v156,v157,v158,v159,v160,v161,v162,v163,v164,v165,v166,v167,v168,v169,v170,v171,v172,v173,v174,v175,v176,v177,v178,v179,v180,v181,v182,v183,v184,v185,v186],[]⟩ C:=by
 refine calm ?_
 conv=>arg 2; whnf
 dsimp only
 have c1:=HC.out
 go_wp2_with fail
 ·rw [show min m nf=nf by omega] at HEND
  exact HEND.out _ _ _ _ _
 ·rw [show min m nf=m by omega] at HEND
  exact HEND.out _ _ _ _ _
set_option maxRecDepth 100000 in
set_option maxHeartbeats 80000000 in
theorem mv_types {Q:Exit→Act→World→Prop} {m nt tc bx bz bm:Nat} {ta:Option Addr} {T:Nat→LType} {w0 C:World} {p q:Nat→Value}
  (HT:Hid (TypesAt w0 ta nt T)) (hnt:nt≤8) (HB:Hid (Below w0.heap.size w0 C)) (hbx:w0.heap.size≤bx) (hbz:w0.heap.size≤bz) (hbm:w0.heap.size≤bm) (hmx:bm≠bx) (hmz:bm≠bz)
  (HM:Hid (MvB w0.heap.size C bx bz (.slice none 0 0) (.slice none 0 0) (.slice none 0 0) (.slice none 0 0) 0 0 0 0 (typeCell (xTs T m)) (typeCell (yTs T m)) p q)) (HTM:Hid (TMap C bm 0 (cutK T m 0)))
  (v0 v1 v2 v4 v5 v6 v7 v8 v9 v10 v11 v15 v16 v17 v18 v19 v20 v21 v22 v23 v24 v25 v26 v27 v28 v29 v30 v31 v32 v33 v34 v35 v36 v37 v38 v39 v40 v41 v42 v43 v44 v45 v46 v47 v48 v49 v50 v51 v52 v53 v54 v55 v56 v57 v58 v59 v60 v61 v62 v63 v64 v65 v66 v67 v68 v69 v70 v71 v72 v73 v77 v78 v79 v80 v81 v82 v83 v84 v85 v86 v87 v88 v89 v90 v91 v92 v93 v94 v95 v96 v97 v98 v99 v100 v101 v102 v103 v104 v105 v106 v107 v108 v109 v110 v111 v112 v113 v114 v115 v116 v117 v118 v119 v120 v121 v122 v123 v124 v125 v126 v127 v128 v129 v130 v131 v132 v133 v134 v135 v136 v137 v138 v139 v140 v141 v142 v143 v144 v145 v146 v147 v148 v149 v150 v151 v152 v153 v154 v155 v156 v157 v158 v159 v160 v161 v162 v163 v164 v165 v166 v167 v168 v169 v170 v171 v172 v173 v174 v175 v176 v177 v178 v179 v180 v181 v182 v183 v184 v185 v186:Value)
  (HEND:Hid (∀ (u16 u17 u76 u77 u78 u79 u80 u81 u82 u83 u84 u85 u86 u87 u88 u89 u90 u91 u92 u93 u94 u95 u96 u97 u98 u99 u100 u101 u102 u103 u104 u105 u106 u107 u108 u109 u110 u111 u112 u113:Value) (w':World) (vt ut:Value),MvB w0.heap.size w' bx bz vt ut (.slice none 0 0) (.slice none 0 0) nt nt 0 0 (typeCell (xTs T m)) (typeCell (yTs T m)) p q→TMap w' bm nt (cutK T m nt)→Below w0.heap.size w0 w'→MvS bx bz C w'→Q .normal ⟨#[v0,v1,v2,.int .i64 (m:Int),v4,v5,v6,v7,v8,v9,v10,v11,.pointer (some ⟨bx,0,none⟩),.pointer (some ⟨bz,0,none⟩),.map (some bm),v15,u16,u17,v18,v19,v20,v21,v22,v23,v24,v25,v26,v27,v28,v29,v30,v31,v32,v33,v34,v35,v36,v37,v38,v39,v40,v41,v42,v43,v44,v45,v46,v47,v48,v49,v50,v51,v52,v53,v54,v55,v56,v57,v58,v59,v60,v61,v62,v63,v64,v65,v66,v67,v68,v69,v70,v71,v72,v73,.slice ta nt tc,.int .i64 (nt:Int),u76,u77,u78,u79,u80,u81,u82,u83,u84,u85,u86,u87,u88,u89,u90,u91,u92,u93,u94,u95,u96,u97,u98,u99,u100,u101,u102,u103,u104,u105,u106,u107,u108,u109,u110,u111,u112,u113,v114,v115,v116,v117,v118,v119,v120,v121,v122,v123,v124,v125,v126,v127,v128,v129,v130,v131,v132,v133,v134,v135,v136,v137,v138,v139,v140,v141,v142,v143,v144,v145,v146,v147,v148,v149,v150,v151,v152,v153,v154,v155,v156,v157,v158,v159,v160,v161,v162,v163,v164,v165,v166,v167,v168,v169,v170,v171,v172,v173,v174,v175,v176,v177,v178,v179,v180,v181,v182,v183,v184,v185,v186],[]⟩ w')) :
  Code.wp Try.prog (piece Try.f6 (blockOf 0)) Q ⟨#[v0,v1,v2,.int .i64 (m:Int),v4,v5,v6,v7,v8,v9,v10,v11,.pointer (some ⟨bx,0,none⟩),.pointer (some ⟨bz,0,none⟩),.map (some bm),v15,v16,v17,v18,v19,v20,v21,v22,v23,v24,v25,v26,v27,v28,v29,v30,v31,v32,v33,v34,v35,v36,v37,v38,v39,v40,v41,v42,v43,v44,v45,v46,v47,v48,v49,v50,v51,v52,v53,v54,v55,v56,v57,v58,v59,v60,v61,v62,v63,v64,v65,v66,v67,v68,v69,v70,v71,v72,v73,.slice ta nt tc,.int .i64 (nt:Int),.int .i64 0,v77,v78,v79,v80,v81,v82,v83,v84,v85,v86,v87,v88,v89,v90,v91,v92,v93,v94,v95,v96,v97,v98,v99,v100,v101,v102,v103,v104,v105,v106,v107,v108,v109,v110,v111,v112,v113,v114,v115,v116,v117,v118,v119,v120,v121,v122,v123,v124,v125,v126,v127,v128,v129,v130,v131,v132,v133,v134,v135,v136,v137,v138,v139,v140,v141,v142,v143,v144,v145,v146,v147,v148,v149,v150,v151,v152,v153,v154,v155,v156,v157,v158,v159,v160,v161,v162,v163,v164,v165,v166,v167,v168,v169,v170,v171,v172,v173,v174,v175,v176,v177,v178,v179,v180,v181,v182,v183,v184,v185,v186],[]⟩ C:=by
 refine calm ?_
 conv=>arg 2; whnf
 dsimp only
 obtain ⟨i0,hi0,hz0,hz1,hz2⟩:=info_parts' Try.info50
 go_wp2_with fail
 go_loopw [76] (fun i wr => ∃ (k:Nat) (vt ut:Value),k≤nt∧i = .int .i64 k∧MvB w0.heap.size wr bx bz vt ut (.slice none 0 0) (.slice none 0 0) k k 0 0 (typeCell (xTs T m)) (typeCell (yTs T m)) p q∧TMap wr bm k (cutK T m k)∧Below w0.heap.size w0 wr∧MvS bx bz C wr) (fun i _=>nt - (intOf i).toNat)
 case atStart=>exact ⟨0,_,_,Nat.zero_le _,rfl,HM.out,HTM.out,HB.out,MvS.of (Below.refl _ _)⟩
 case round =>
  obtain ⟨k,vt,ut,hk,rfl,hM,hTM,hw,hSt⟩:=hrel
  by_cases hlt:k < nt
  ·obtain ⟨b,o,rfl,c0,c1,hcap,hsn,hFA⟩:=(HT.out.kept hw).2 k hlt
   have hnf:(T k).nf≤9223372036854775807:=hFA.1
   clear hFA
   have hlt':(k:Int) < (nt:Int):=by omega
   have hk0:(0:Int)≤(k:Int):=by omega
   generalize hX:wr.alloc (Obj.cells #[.string (T k).name,.slice (T k).fa (T k).nf (T k).fcap] 50)=X1
   have hBX:Below wr.heap.size wr X1:=by rw [← hX]; exact below1 _ _
   have hbx1:X1.heap[wr.heap.size]? = some (.cells #[.string (T k).name,.slice (T k).fa (T k).nf (T k).fcap] 50 (0,0)):=by rw [← hX]; exact heap_alloc_new _ _
   obtain ⟨x0,x1⟩:X1.cell? ⟨wr.heap.size,0,none⟩=some (.string (T k).name)∧X1.cell? ⟨wr.heap.size,1,none⟩=some (.slice (T k).fa (T k).nf (T k).fcap):=by simp [World.cell?,hbx1]
   obtain ⟨c9,hc9⟩:∃ c9,c9=min m (T k).nf:=⟨_,rfl⟩
   have hc9n:c9≤(T k).nf:=by omega
   obtain ⟨w3,hst,hTM3,hT3⟩:=(hTM.kept hBX).store (Nat.lt_of_le_of_lt (show k≤100 by omega) (by decide)) hsn (x:=(c9:Int)) (gwf_small (by omega) (by omega))
   obtain ⟨es,ec,hmo⟩:=(hTM.kept hBX).obj
   have hw1:Below w0.heap.size w0 X1:=hw.trans (hBX.mono hw.size)
   have hw3:Below w0.heap.size w0 w3:=hw1.grown hT3.grown hw1.size (fun b hb=>by cases hb; exact hbm)
   have hM3:=(hM.kept hBX).turned hT3 hmo
   have hS3:MvS bx bz C w3:=hSt.trans ((MvS.of hBX).trans (MvS.turned hT3 hmo))
   have hb3:w3.heap[wr.heap.size]? = some (.cells #[.string (T k).name,.slice (T k).fa (T k).nf (T k).fcap] 50 (0,0)):=by
    refine (hT3.grown.block _ (lt_of_block hbx1) (fun e=>?_)).trans hbx1
    cases e
    rw [hmo] at hbx1
    cases hbx1
   have HTN:Hid (TMap w3 bm (k + 1) (cutK T m (k + 1))):=Hid.intro (hTM3.congr fun u _=>by rw [hc9]; rfl)
   have hrl1:vt.ownBlock≠some wr.heap.size:=fun e=>by have:=(hM.t1.lt e).2; omega
   have hrl2:ut.ownBlock≠some wr.heap.size:=fun e=>by have:=(hM.t2.lt e).2; omega
   have hbxr:bx < wr.heap.size:=lt_of_block hM.s1
   have hbzr:bz < wr.heap.size:=lt_of_block hM.s2
   obtain ⟨va,vc,hva,-⟩:=hM.t1.slice
   obtain ⟨ua,uc,hua,-⟩:=hM.t2.slice
   subst hva hua
   have HM3:=Hid.intro hM3
   have HB3:=Hid.intro hb3
   have HW3:=Hid.intro hw3
   have HS3:=Hid.intro hS3
   have HC9:=Hid.intro hc9
   have hN3:w0.heap.size≤w3.heap.size:=hw3.size
   clear hM hTM hw hSt hBX hbx1 hTM3 hT3 hmo hw1 hw3 hM3 hS3 hb3 hc9 HTM HM
   go_upto_region 14 with fail
   clear hX c0 c1
   refine mv_min (m:=m) (bt:=wr.heap.size) (Hid.intro x1) _ _ _ _ _ _ _ _ _ _ _ _ _ _ _ _ _ _ _ _ _ _ _ _ _ _ _ _ _ _ _ _ _ _ _ _ _ _ _ _ _ _ _ _ _ _ _ _ _ _ _ _ _ _ _ _ _ _ _ _ _ _ _ _ _ _ _ _ _ _ _ _ _ _ _ _ _ _ _ _ _ _ _ _ _ _ _ _ _ _ _ _ _ _ _ _ _ _ _ _ _ _ _ _ _ _ _ _ _ _ _ _ _ _ _ _ _ _ _ _ _ _ _ _ _ _ _ _ _ _ _ _ _ _ _ _ _ _ _ _ _ _ _ _ _ _ _ _ _ _ _ _ _ _ _ _ _ _ _ _ _ _ _ _ _ _ _ _ _ _ _ _ _ _ _ _ _ _ _ _ _ _ _ _ _ (Hid.intro ?_)
   intro u80 u81 u82 u83 u84
   rw [← HC9.out]
   go_upto_region 16 with fail
   clear x0 x1 hst
   refine movTx (MovP w3 w0.heap.size bx 0 50 2 #[.string (T k).name,.slice (T k).fa c9 (T k).fcap] (.slice va k vc) k (typeCell (xTs T m))) (bs:=bx) (bt:=wr.heap.size) (ra:=va) (rn:=k) (rc:=vc) (n:=(T k).nf) (c:=(T k).fcap) (k:=c9) (nm:=(T k).name) (fa:=(T k).fa) (by kernel_rfl) rfl rfl rfl (mov_headF (T k).fa (T k).nf (T k).fcap c9 (by omega)) (fun x=>mov_0 x) ?_ (fun x w h x' e1 _=>mov_he0 x w h x' e1) ?_ ?_ ?_
   ·intro j x w hj h
    exact ⟨mov_cell hj h (by simp [World.cell?,HM3.out.s1]) (fun e=>HM3.out.t1.ne_box HM3.out.s1 (by decide) e),mov_cell hj h (by simp [World.cell?,HB3.out]) hrl1,mov_cell hj h (by simp [World.cell?,HB3.out]) hrl1⟩
   ·intro x w h ty
    exact mov_he1 Try.underlying43 hi0 hz0 hz1 hz2 rfl (by decide) HM3.out.t1 hN3 (by unfold maxLen; omega) (by omega) rfl (by intro u hu; simp at hu; rcases hu with rfl | rfl <;> rfl) (by rw [tyCells_snoc]; unfold xTs xTy; (rw [← HC9.out] <;> rfl)) x w h ty
   ·intro x w h
    exact mov_he2 HM3.out.t1 HM3.out.s1 (o:=0) rfl (by decide) x w h
   intro st w5 hend
   obtain ⟨x9,hx9⟩:∃ x9:Nat→Value,x9=fun i=>st ([98,99,0].getD i 0):=⟨_,rfl⟩
   rw [← hx9] at hend
   obtain ⟨wa,wb,hBa,hga,hra,hva,rfl⟩:=mov_end hend
   have hMa:=HM3.out.kept hBa
   obtain ⟨hM4,hK4,-,-⟩:=hMa.ty hra hga hva
   have hWa:Below w0.heap.size w0 wa:=HW3.out.trans (hBa.mono hN3)
   have HW4:=Hid.intro (Below.mv (o:=0) (v':=x9 1) hWa hMa.t1 hga hWa.size hbx)
   have HS4:=Hid.intro (HS3.out.trans ((MvS.of hBa).trans (hK4.steady (b2:=bz) hMa.t1 (.inl rfl))))
   have h1:=HTN.out.kept hBa
   obtain ⟨es,ec,ho⟩:=h1.obj
   have HTM4:=Hid.intro (h1.at (hK4.map hMa.t1 ho hmx))
   have h2:=(hBa.block _ (lt_of_block HB3.out)).trans HB3.out
   have HB4:=Hid.intro ((hK4.keep _ (lt_of_block h2) (by omega) hrl1).trans h2)
   have HM4:=Hid.intro hM4
   have hN4:=HW4.out.size
   clear hx9 hend hra hva hM4 hK4 hMa hWa hBa hga h1 h2 ho HM3 HB3 HW3 HS3 HTN hN3
   generalize x9 1=v2 at *
   generalize wb.setCell ⟨bx,0,none⟩ v2=w4 at *
   simp only [putAll,Act.put,List.setIfInBounds_toArray,List.set_cons_succ,List.set_cons_zero]
   generalize st 89=t89
   generalize st 90=t90
   generalize st 91=t91
   generalize st 92=t92
   generalize st 93=t93
   generalize st 94=t94
   generalize st 95=t95
   generalize st 96=t96
   generalize st 97=t97
   generalize st 98=t98
   generalize st 99=t99
   generalize st 100=t100
   clear st
   go_upto_region 17 with fail
   refine movTy (MovP w4 w0.heap.size bz 0 50 2 #[.string (T k).name,.slice (tailA (T k).fa (T k).fcap c9) ((T k).nf - c9) ((T k).fcap - c9)] (.slice ua k uc) k (typeCell (yTs T m))) (bs:=bz) (bt:=wr.heap.size) (ra:=ua) (rn:=k) (rc:=uc) (n:=(T k).nf) (c:=(T k).fcap) (k:=c9) (nm:=(T k).name) (fa:=(T k).fa) (by kernel_rfl) rfl rfl rfl (mov_tailF (T k).fa (T k).nf (T k).fcap c9 hc9n) (fun x=>mov_0 x) ?_ (fun x w h x' e1 _=>mov_he0 x w h x' e1) ?_ ?_ ?_
   ·intro j x w hj h
    exact ⟨mov_cell hj h (by simp [World.cell?,HM4.out.s2]) (fun e=>HM4.out.t2.ne_box HM4.out.s2 (by decide) e),mov_cell hj h (by simp [World.cell?,HB4.out]) hrl2,mov_cell hj h (by simp [World.cell?,HB4.out]) hrl2⟩
   ·intro x w h ty
    exact mov_he1 Try.underlying43 hi0 hz0 hz1 hz2 rfl (by decide) HM4.out.t2 hN4 (by unfold maxLen; omega) (by omega) rfl (by intro u hu; simp at hu; rcases hu with rfl | rfl <;> rfl) (by rw [tyCells_snoc]; unfold yTs yTy; (rw [← HC9.out] <;> rfl)) x w h ty
   ·intro x w h
    exact mov_he2 HM4.out.t2 HM4.out.s2 (o:=0) rfl (by decide) x w h
   intro st w5 hend
   obtain ⟨x9,hx9⟩:∃ x9:Nat→Value,x9=fun i=>st ([110,111,0].getD i 0):=⟨_,rfl⟩
   rw [← hx9] at hend
   obtain ⟨wa,wb,hBa,hga,hra,hva,rfl⟩:=mov_end hend
   have hMa:=(HM4.out.kept hBa).swap
   obtain ⟨hM5,hK5,-,-⟩:=hMa.ty hra hga hva
   have hWa:Below w0.heap.size w0 wa:=HW4.out.trans (hBa.mono hN4)
   have HW5:=Hid.intro (Below.mv (o:=0) (v':=x9 1) hWa hMa.t1 hga hWa.size hbz)
   have HS5:=Hid.intro (HS4.out.trans ((MvS.of hBa).trans (hK5.steady (b2:=bx) hMa.t1 (.inl rfl)).swap))
   have h1:=HTM4.out.kept hBa
   obtain ⟨es,ec,ho⟩:=h1.obj
   have HTM5:=Hid.intro (h1.at (hK5.map hMa.t1 ho hmz))
   have HM5:=Hid.intro hM5.swap
   clear hx9 hend hra hva hM5 hK5 hMa hWa hBa hga h1 ho HM4 HB4 HW4 HS4 HTM4 hN4
   generalize x9 1=v3 at *
   generalize wb.setCell ⟨bz,0,none⟩ v3=w6 at *
   clear x9
   simp only [putAll,Act.put,List.setIfInBounds_toArray,List.set_cons_succ,List.set_cons_zero]
   generalize st 101=t101
   generalize st 102=t102
   generalize st 103=t103
   generalize st 104=t104
   generalize st 105=t105
   generalize st 106=t106
   generalize st 107=t107
   generalize st 108=t108
   generalize st 109=t109
   generalize st 110=t110
   generalize st 111=t111
   generalize st 112=t112
   clear st
   go_wp2_with fail
   go_roundw
   case rel=>exact ⟨k + 1,v2,v3,by omega,by go_num,HM5.out,HTM5.out,HW5.out,HS5.out⟩
   case measure=>simp [intOf]; omega
  ·have hkn:k=nt:=by omega
   subst hkn
   have HM9:=Hid.intro hM
   have HT9:=Hid.intro hTM
   have HW9:=Hid.intro hw
   have HS9:=Hid.intro hSt
   clear hM hTM hw hSt
   go_wp2_with fail
   exact HEND.out _ _ _ _ _ _ _ _ _ _ _ _ _ _ _ _ _ _ _ _ _ _ _ _ _ _ _ _ _ _ _ _ _ _ _ _ _ _ _ _ _ vt ut HM9.out HT9.out HW9.out HS9.out
set_option maxRecDepth 100000 in
set_option maxHeartbeats 80000000 in
theorem mv_things {Q:Exit→Act→World→Prop} {nx xc bx bz bm nm9 kt:Nat} {xa:Option Addr} {X:Nat→LThing} {c:ByteArray→Nat} {cf:ByteArray→Option Int} {w0 C:World} {vt ut:Value} {f g:Nat→Value}
  (HX:Hid (ThingsAt w0 xa nx X)) (hnx:nx≤60) (HC:Hid (∀ i,i < nx→(cf (X i).type).getD 0=(c (X i).type:Int)∧c (X i).type≤(X i).nv)) (HB:Hid (Below w0.heap.size w0 C)) (hbx:w0.heap.size≤bx) (hbz:w0.heap.size≤bz) (hmx:bm≠bx) (hmz:bm≠bz)
  (HM:Hid (MvB w0.heap.size C bx bz vt ut (.slice none 0 0) (.slice none 0 0) kt kt 0 0 f g (thCell (xXs X c)) (thCell (yXs X c)))) (HTM:Hid (TMap C bm nm9 cf))
  (v0 v1 v2 v3 v4 v5 v6 v7 v8 v9 v10 v11 v15 v16 v17 v18 v19 v20 v21 v22 v23 v24 v25 v26 v27 v28 v29 v30 v31 v32 v33 v34 v35 v36 v37 v38 v39 v40 v41 v42 v43 v44 v45 v46 v47 v48 v49 v50 v51 v52 v53 v54 v55 v56 v57 v58 v59 v60 v61 v62 v63 v64 v65 v66 v67 v68 v69 v70 v71 v72 v73 v74 v75 v76 v77 v78 v79 v80 v81 v82 v83 v84 v85 v86 v87 v88 v89 v90 v91 v92 v93 v94 v95 v96 v97 v98 v99 v100 v101 v102 v103 v104 v105 v106 v107 v108 v109 v110 v111 v112 v113 v114 v118 v119 v120 v121 v122 v123 v124 v125 v126 v127 v128 v129 v130 v131 v132 v133 v134 v135 v136 v137 v138 v139 v140 v141 v142 v143 v144 v145 v146 v147 v148 v149 v150 v151 v152 v153 v154 v155 v156 v157 v158 v159 v160 v161 v162 v163 v164 v165 v166 v167 v168 v169 v170 v171 v172 v173 v174 v175 v176 v177 v178 v179 v180 v181 v182 v183 v184 v185 v186:Value)
  (HEND:Hid (∀ (u19 u20 u117 u118 u119 u120 u121 u122 u123 u124 u125 u126 u127 u128 u129 u130 u131 u132 u133 u134 u135 u136 u137 u138 u139 u140 u141 u142 u143 u144 u145 u146 u147 u148 u149 u150 u151 u152 u153:Value) (w':World) (vx ux:Value),MvB w0.heap.size w' bx bz vt ut vx ux kt kt nx nx f g (thCell (xXs X c)) (thCell (yXs X c))→Below w0.heap.size w0 w'→MvS bx bz C w'→Q .normal ⟨#[v0,v1,v2,v3,v4,v5,v6,v7,v8,v9,v10,v11,.pointer (some ⟨bx,0,none⟩),.pointer (some ⟨bz,0,none⟩),.map (some bm),v15,v16,v17,v18,u19,u20,v21,v22,v23,v24,v25,v26,v27,v28,v29,v30,v31,v32,v33,v34,v35,v36,v37,v38,v39,v40,v41,v42,v43,v44,v45,v46,v47,v48,v49,v50,v51,v52,v53,v54,v55,v56,v57,v58,v59,v60,v61,v62,v63,v64,v65,v66,v67,v68,v69,v70,v71,v72,v73,v74,v75,v76,v77,v78,v79,v80,v81,v82,v83,v84,v85,v86,v87,v88,v89,v90,v91,v92,v93,v94,v95,v96,v97,v98,v99,v100,v101,v102,v103,v104,v105,v106,v107,v108,v109,v110,v111,v112,v113,v114,.slice xa nx xc,.int .i64 (nx:Int),u117,u118,u119,u120,u121,u122,u123,u124,u125,u126,u127,u128,u129,u130,u131,u132,u133,u134,u135,u136,u137,u138,u139,u140,u141,u142,u143,u144,u145,u146,u147,u148,u149,u150,u151,u152,u153,v154,v155,v156,v157,v158,v159,v160,v161,v162,v163,v164,v165,v166,v167,v168,v169,v170,v171,v172,v173,v174,v175,v176,v177,v178,v179,v180,v181,v182,v183,v184,v185,v186],[]⟩ w')) :
  Code.wp Try.prog (piece Try.f6 (blockOf 2)) Q ⟨#[v0,v1,v2,v3,v4,v5,v6,v7,v8,v9,v10,v11,.pointer (some ⟨bx,0,none⟩),.pointer (some ⟨bz,0,none⟩),.map (some bm),v15,v16,v17,v18,v19,v20,v21,v22,v23,v24,v25,v26,v27,v28,v29,v30,v31,v32,v33,v34,v35,v36,v37,v38,v39,v40,v41,v42,v43,v44,v45,v46,v47,v48,v49,v50,v51,v52,v53,v54,v55,v56,v57,v58,v59,v60,v61,v62,v63,v64,v65,v66,v67,v68,v69,v70,v71,v72,v73,v74,v75,v76,v77,v78,v79,v80,v81,v82,v83,v84,v85,v86,v87,v88,v89,v90,v91,v92,v93,v94,v95,v96,v97,v98,v99,v100,v101,v102,v103,v104,v105,v106,v107,v108,v109,v110,v111,v112,v113,v114,.slice xa nx xc,.int .i64 (nx:Int),.int .i64 0,v118,v119,v120,v121,v122,v123,v124,v125,v126,v127,v128,v129,v130,v131,v132,v133,v134,v135,v136,v137,v138,v139,v140,v141,v142,v143,v144,v145,v146,v147,v148,v149,v150,v151,v152,v153,v154,v155,v156,v157,v158,v159,v160,v161,v162,v163,v164,v165,v166,v167,v168,v169,v170,v171,v172,v173,v174,v175,v176,v177,v178,v179,v180,v181,v182,v183,v184,v185,v186],[]⟩ C:=by
 refine calm ?_
 conv=>arg 2; whnf
 dsimp only
 obtain ⟨i0,hi0,hz0,hz1,hz2⟩:=info_parts' Try.info59
 go_wp2_with fail
 go_loopw [117] (fun i wr => ∃ (k:Nat) (vx ux:Value),k≤nx∧i = .int .i64 k∧MvB w0.heap.size wr bx bz vt ut vx ux kt kt k k f g (thCell (xXs X c)) (thCell (yXs X c))∧TMap wr bm nm9 cf∧Below w0.heap.size w0 wr∧MvS bx bz C wr) (fun i _=>nx - (intOf i).toNat)
 case atStart=>exact ⟨0,_,_,Nat.zero_le _,rfl,HM.out,HTM.out,HB.out,MvS.of (Below.refl _ _)⟩
 case round =>
  obtain ⟨k,vx,ux,hk,rfl,hM,hTM,hw,hSt⟩:=hrel
  by_cases hlt:k < nx
  ·obtain ⟨b,o,rfl,c0,c1,c2,hcap,hsn,hsk,-⟩:=(HX.out.kept hw).2 k hlt
   have hlt':(k:Int) < (nx:Int):=by omega
   have hk0:(0:Int)≤(k:Int):=by omega
   generalize hX:wr.alloc (Obj.cells #[.string (X k).type,.string (X k).key,.slice (X k).va (X k).nv (X k).vcap] 59)=X1
   have hBX:Below wr.heap.size wr X1:=by rw [← hX]; exact below1 _ _
   have hbx1:X1.heap[wr.heap.size]? = some (.cells #[.string (X k).type,.string (X k).key,.slice (X k).va (X k).nv (X k).vcap] 59 (0,0)):=by rw [← hX]; exact heap_alloc_new _ _
   obtain ⟨x0,x1⟩:X1.cell? ⟨wr.heap.size,0,none⟩=some (.string (X k).type)∧X1.cell? ⟨wr.heap.size,1,none⟩=some (.string (X k).key):=by simp [World.cell?,hbx1]
   obtain ⟨c9,hc9⟩:∃ c9,c9=c (X k).type:=⟨_,rfl⟩
   obtain ⟨hcf,hcn⟩:=HC.out k hlt
   rw [← hc9] at hcf hcn
   have hlk:=(hTM.kept hBX).look hsn
   rw [hcf] at hlk
   have hM3:=hM.kept hBX
   have hw3:Below w0.heap.size w0 X1:=hw.trans (hBX.mono hw.size)
   have hS3:MvS bx bz C X1:=hSt.trans (MvS.of hBX)
   have HTN:=Hid.intro (hTM.kept hBX)
   have hrl1:vx.ownBlock≠some wr.heap.size:=fun e=>by have:=(hM.x1.lt e).2; omega
   have hrl2:ux.ownBlock≠some wr.heap.size:=fun e=>by have:=(hM.x2.lt e).2; omega
   have hbxr:bx < wr.heap.size:=lt_of_block hM.s1
   have hbzr:bz < wr.heap.size:=lt_of_block hM.s2
   obtain ⟨va,vc,hva,-⟩:=hM.x1.slice
   obtain ⟨ua,uc,hua,-⟩:=hM.x2.slice
   subst hva hua
   have HM3:=Hid.intro hM3
   have HB3:=Hid.intro hbx1
   have HW3:=Hid.intro hw3
   have HS3:=Hid.intro hS3
   have HC9:=Hid.intro hc9
   have hN3:w0.heap.size≤X1.heap.size:=hw3.size
   clear hM hTM hw hSt hBX hbx1 hw3 hM3 hS3 hc9 hcf HTM HM
   go_upto_region 23 with fail
   clear hX c0 c1 c2 x0 x1 hlk
   refine movXx (MovP X1 w0.heap.size bx 2 59 3 #[.string (X k).type,.string (X k).key,.slice (X k).va c9 (X k).vcap] (.slice va k vc) k (thCell (xXs X c))) (bs:=bx) (bt:=wr.heap.size) (ra:=va) (rn:=k) (rc:=vc) (n:=(X k).nv) (c:=(X k).vcap) (k:=c9) (nm:=(X k).type) (key:=(X k).key) (fa:=(X k).va) (by kernel_rfl) rfl rfl rfl (mov_headV (X k).va (X k).nv (X k).vcap c9 (by omega)) (fun x=>mov_0 x) ?_ (fun x w h x' e1 _=>mov_he0 x w h x' e1) ?_ ?_ ?_
   ·intro j x w hj h
    exact ⟨mov_cell hj h (by simp [World.cell?,HM3.out.s1]) (fun e=>HM3.out.x1.ne_box HM3.out.s1 (by decide) e),mov_cell hj h (by simp [World.cell?,HB3.out]) hrl1,mov_cell hj h (by simp [World.cell?,HB3.out]) hrl1,mov_cell hj h (by simp [World.cell?,HB3.out]) hrl1⟩
   ·intro x w h ty
    exact mov_he1 Try.underlying45 hi0 hz0 hz1 hz2 rfl (by decide) HM3.out.x1 hN3 (by unfold maxLen; omega) (by omega) rfl (by intro u hu; simp at hu; rcases hu with rfl | rfl | rfl <;> rfl) (by rw [thCells_snoc]; unfold xXs xTh; (rw [← HC9.out] <;> rfl)) x w h ty
   ·intro x w h
    exact mov_he2 HM3.out.x1 HM3.out.s1 (o:=2) rfl (by decide) x w h
   intro st w5 hend
   obtain ⟨x9,hx9⟩:∃ x9:Nat→Value,x9=fun i=>st ([136,137,0].getD i 0):=⟨_,rfl⟩
   rw [← hx9] at hend
   obtain ⟨wa,wb,hBa,hga,hra,hva,rfl⟩:=mov_end hend
   have hMa:=HM3.out.kept hBa
   obtain ⟨hM4,hK4,-,-⟩:=hMa.th hra hga hva
   have hWa:Below w0.heap.size w0 wa:=HW3.out.trans (hBa.mono hN3)
   have HW4:=Hid.intro (Below.mv (o:=2) (v':=x9 1) hWa hMa.x1 hga hWa.size hbx)
   have HS4:=Hid.intro (HS3.out.trans ((MvS.of hBa).trans (hK4.steady (b2:=bz) hMa.x1 (.inr rfl))))
   have h1:=HTN.out.kept hBa
   obtain ⟨es,ec,ho⟩:=h1.obj
   have HTM4:=Hid.intro (h1.at (hK4.map hMa.x1 ho hmx))
   have h2:=(hBa.block _ (lt_of_block HB3.out)).trans HB3.out
   have HB4:=Hid.intro ((hK4.keep _ (lt_of_block h2) (by omega) hrl1).trans h2)
   have HM4:=Hid.intro hM4
   have hN4:=HW4.out.size
   clear hx9 hend hra hva hM4 hK4 hMa hWa hBa hga h1 h2 ho HM3 HB3 HW3 HS3 HTN hN3
   generalize x9 1=v2 at *
   generalize wb.setCell ⟨bx,2,none⟩ v2=w4 at *
   clear x9
   simp only [putAll,Act.put,List.setIfInBounds_toArray,List.set_cons_succ,List.set_cons_zero]
   generalize st 125=t125
   generalize st 126=t126
   generalize st 127=t127
   generalize st 128=t128
   generalize st 129=t129
   generalize st 130=t130
   generalize st 131=t131
   generalize st 132=t132
   generalize st 133=t133
   generalize st 134=t134
   generalize st 135=t135
   generalize st 136=t136
   generalize st 137=t137
   generalize st 138=t138
   clear st
   go_upto_region 24 with fail
   refine movXy (MovP w4 w0.heap.size bz 2 59 3 #[.string (X k).type,.string (X k).key,.slice (tailA (X k).va (X k).vcap c9) ((X k).nv - c9) ((X k).vcap - c9)] (.slice ua k uc) k (thCell (yXs X c))) (bs:=bz) (bt:=wr.heap.size) (ra:=ua) (rn:=k) (rc:=uc) (n:=(X k).nv) (c:=(X k).vcap) (k:=c9) (nm:=(X k).type) (key:=(X k).key) (fa:=(X k).va) (by kernel_rfl) rfl rfl rfl (mov_tailV (X k).va (X k).nv (X k).vcap c9 hcn) (fun x=>mov_0 x) ?_ (fun x w h x' e1 _=>mov_he0 x w h x' e1) ?_ ?_ ?_
   ·intro j x w hj h
    exact ⟨mov_cell hj h (by simp [World.cell?,HM4.out.s2]) (fun e=>HM4.out.x2.ne_box HM4.out.s2 (by decide) e),mov_cell hj h (by simp [World.cell?,HB4.out]) hrl2,mov_cell hj h (by simp [World.cell?,HB4.out]) hrl2,mov_cell hj h (by simp [World.cell?,HB4.out]) hrl2⟩
   ·intro x w h ty
    exact mov_he1 Try.underlying45 hi0 hz0 hz1 hz2 rfl (by decide) HM4.out.x2 hN4 (by unfold maxLen; omega) (by omega) rfl (by intro u hu; simp at hu; rcases hu with rfl | rfl | rfl <;> rfl) (by rw [thCells_snoc]; unfold yXs yTh; (rw [← HC9.out] <;> rfl)) x w h ty
   ·intro x w h
    exact mov_he2 HM4.out.x2 HM4.out.s2 (o:=2) rfl (by decide) x w h
   intro st w5 hend
   obtain ⟨x9,hx9⟩:∃ x9:Nat→Value,x9=fun i=>st ([150,151,0].getD i 0):=⟨_,rfl⟩
   rw [← hx9] at hend
   obtain ⟨wa,wb,hBa,hga,hra,hva,rfl⟩:=mov_end hend
   have hMa:=(HM4.out.kept hBa).swap
   obtain ⟨hM5,hK5,-,-⟩:=hMa.th hra hga hva
   have hWa:Below w0.heap.size w0 wa:=HW4.out.trans (hBa.mono hN4)
   have HW5:=Hid.intro (Below.mv (o:=2) (v':=x9 1) hWa hMa.x1 hga hWa.size hbz)
   have HS5:=Hid.intro (HS4.out.trans ((MvS.of hBa).trans (hK5.steady (b2:=bx) hMa.x1 (.inr rfl)).swap))
   have h1:=HTM4.out.kept hBa
   obtain ⟨es,ec,ho⟩:=h1.obj
   have HTM5:=Hid.intro (h1.at (hK5.map hMa.x1 ho hmz))
   have HM5:=Hid.intro hM5.swap
   clear hx9 hend hra hva hM5 hK5 hMa hWa hBa hga h1 ho HM4 HB4 HW4 HS4 HTM4 hN4
   generalize x9 1=v3 at *
   generalize wb.setCell ⟨bz,2,none⟩ v3=w6 at *
   clear x9
   simp only [putAll,Act.put,List.setIfInBounds_toArray,List.set_cons_succ,List.set_cons_zero]
   generalize st 139=t139
   generalize st 140=t140
   generalize st 141=t141
   generalize st 142=t142
   generalize st 143=t143
   generalize st 144=t144
   generalize st 145=t145
   generalize st 146=t146
   generalize st 147=t147
   generalize st 148=t148
   generalize st 149=t149
   generalize st 150=t150
   generalize st 151=t151
   generalize st 152=t152
   clear st
   go_wp2_with fail
   go_roundw
   case rel=>exact ⟨k + 1,v2,v3,by omega,by go_num,HM5.out,HTM5.out,HW5.out,HS5.out⟩
   case measure=>simp [intOf]; omega
  ·have hkn:k=nx:=by omega
   subst hkn
   have HM9:=Hid.intro hM
   have HW9:=Hid.intro hw
   have HS9:=Hid.intro hSt
   clear hM hTM hw hSt
   go_wp2_with fail
   exact HEND.out _ _ _ _ _ _ _ _ _ _ _ _ _ _ _ _ _ _ _ _ _ _ _ _ _ _ _ _ _ _ _ _ _ _ _ _ _ _ _ _ vx ux HM9.out HW9.out HS9.out
end Go.Proofs.Ytjjggefmmeminac
