import Derived.Test.YtjjggefmmeminabGreatRqTos
import Derived.Test.YtjjggefmmeminabGreatRqReg
import Derived.Test.YtjjggefmmeminabGreatJRg
import Derived.Test.YtjjggefmmeminabGreatRqRec
import Derived.Test.YtjjggefmmeminabGreatGrReply
set_option maxRecDepth 100000
set_option maxHeartbeats 80000000
namespace Go.Proofs.YtjjggefmmeminabGreat
open Go.RowKit Go.Sort Go.PlainAid
theorem Ty(l:List ByteArray)(v:LVal):PH true l v.K v.nk=(D3 v).foldl CP l:=rfl
theorem Ok{Q:Exit->Act->World->Prop}{bo base d vc nc m:Nat}{va na:Option Addr}{X:Nat->LVal}{l:List ByteArray}{fl:ByteArray}{vo:Array Value}{g C:World}(n:Hid (Ec g va d X))(hm:m<d)(HU:Hid (∀m',m' < d->(eqs (X m').field fl=true↔m'=m)))(hmk:(X m).nk<=20)(HB:Hid (Below g.heap.size g C))(hb0:g.heap.size<=base)(hbC:base<=C.heap.size)(HCO:Hid (C.heap[bo]? = some (.cells vo 92 (0,0))/\vo[2]? = some (.string fl)))(HR:Hid (Df C base (.slice na l.length nc) l))(HSl:Hid (∀x,x∈l->BY x))(hl:l.length<=50000){v0 v1 v2 v3 v4 v5 v6 v7 v8 v9 v10 v11 v12 v13 v14 v15 v16 v17 v18 v19 v20 v21 v22 v23 v26 v27 v28 v29 v30 v31 v32 v33 v34 v35 v36 v37 v38 v39 v40 v41 v42 v43 v44 v45 v46 v47 v48 v49 v50 v51 v52 v53 v54 v55 v56 v57 v58 v59 v60 v61 v62 v63 v64 v65 v66 v67 v68 v69 v70 v71 v72 v73 v74 v75 v76 v77 v78 v79 v80 v81 v82 v83 v84 v85 v86 v87 v88 v89 v90 v91 v92 v93 v94 v95 v96 v97 v98 v99 r s u w y z A B D E G H I J L M N O P R S T U V W Y Z aa ab ac ad ae af ag ah ai aj ak al am an ao ap aq ar zzq au av aw ax ay az aA aB aC aD aE aF aG aH aI aJ aK aL aM aN aO v170 v171 v172 v173 v174 v175 v176 v177 v178 v179 v180 v181 v182 v183 v184 v185 v186 v187 v188 v189 v190 v191 v192 v193 v194 v195 v196 v197 v198 v199 v200 v201 v202 v203 v204 v205 aP aQ aR aS aT aU aV aW aX aY aZ a0 a1 a3 a4 a5 a6 a7 a8 a9 ba bb bc bd be:Value}(bf:Hid (∀(u30 u32 u33 u35 u169 u170 u171 u172 u173 u174 u175 bg bh bi bj bk bl bm bn bp bq br bs bt bu bv bw bx bz bA bB bC bD bE bF bG bH bI bJ bK u205:Value) (w':World) (na':Option Addr) (nc':Nat),Df w' base (.slice na' ((D3 (X m)).foldl CP l).length nc') ((D3 (X m)).foldl CP l)->SK base C w'->Q .normal ⟨#[v0,v1,v2,v3,v4,v5,v6,v7,v8,v9,v10,v11,v12,v13,v14,v15,v16,v17,v18,v19,v20,v21,v22,v23,.pointer (some ⟨bo,0,none⟩),.slice na' ((D3 (X m)).foldl CP l).length nc',v26,v27,v28,v29,u30,v31,u32,u33,v34,u35,v36,v37,v38,v39,v40,v41,v42,v43,v44,v45,v46,v47,v48,v49,v50,v51,v52,v53,v54,v55,v56,v57,v58,v59,v60,v61,v62,v63,v64,v65,v66,v67,v68,v69,v70,v71,v72,v73,v74,v75,v76,v77,v78,v79,v80,v81,v82,v83,v84,v85,v86,v87,v88,v89,v90,v91,v92,v93,v94,v95,v96,v97,v98,v99,r,s,u,w,y,z,A,B,D,E,G,H,I,J,L,M,N,O,P,R,S,T,U,V,W,Y,Z,aa,ab,ac,ad,ae,af,ag,ah,ai,aj,ak,al,am,an,ao,ap,aq,ar,zzq,au,av,aw,ax,ay,az,aA,aB,aC,aD,aE,aF,aG,aH,aI,aJ,aK,aL,aM,aN,aO,.slice va d vc,.int .i64 (d:Int),u169,u170,u171,u172,u173,u174,u175,bg,bh,bi,bj,bk,bl,bm,bn,bp,bq,br,bs,bt,bu,bv,bw,bx,bz,bA,bB,bC,bD,bE,bF,bG,bH,bI,bJ,bK,u205,aP,aQ,aR,aS,aT,aU,aV,aW,aX,aY,aZ,a0,a1,a3,a4,a5,a6,a7,a8,a9,ba,bb,bc,bd,be],[]⟩ w')) :
  Code.wp Tryz.prog (GA Tryz.f24 (DW 10)) Q ⟨#[v0,v1,v2,v3,v4,v5,v6,v7,v8,v9,v10,v11,v12,v13,v14,v15,v16,v17,v18,v19,v20,v21,v22,v23,.pointer (some ⟨bo,0,none⟩),.slice na l.length nc,v26,v27,v28,v29,v30,v31,v32,v33,v34,v35,v36,v37,v38,v39,v40,v41,v42,v43,v44,v45,v46,v47,v48,v49,v50,v51,v52,v53,v54,v55,v56,v57,v58,v59,v60,v61,v62,v63,v64,v65,v66,v67,v68,v69,v70,v71,v72,v73,v74,v75,v76,v77,v78,v79,v80,v81,v82,v83,v84,v85,v86,v87,v88,v89,v90,v91,v92,v93,v94,v95,v96,v97,v98,v99,r,s,u,w,y,z,A,B,D,E,G,H,I,J,L,M,N,O,P,R,S,T,U,V,W,Y,Z,aa,ab,ac,ad,ae,af,ag,ah,ai,aj,ak,al,am,an,ao,ap,aq,ar,zzq,au,av,aw,ax,ay,az,aA,aB,aC,aD,aE,aF,aG,aH,aI,aJ,aK,aL,aM,aN,aO,.slice va d vc,.int .i64 (d:Int),.int .i64 0,v170,v171,v172,v173,v174,v175,v176,v177,v178,v179,v180,v181,v182,v183,v184,v185,v186,v187,v188,v189,v190,v191,v192,v193,v194,v195,v196,v197,v198,v199,v200,v201,v202,v203,v204,v205,aP,aQ,aR,aS,aT,aU,aV,aW,aX,aY,aZ,a0,a1,a3,a4,a5,a6,a7,a8,a9,ba,bb,bc,bd,be],[]⟩ C:=by
 refine Iu ?_
 conv=>arg 2;whnf
 dsimp only;obtain⟨F,hF⟩:∃F:Nat->List ByteArray,F=λk=>if m<k then (D3 (X m)).foldl CP l else l:=⟨_,rfl⟩
 have HF:Hid (∀k,F k=if m<k then (D3 (X m)).foldl CP l else l):=Aa λk=>by rw[hF]
 have hFn:F d=(D3 (X m)).foldl CP l:=by rw[hF];exact Af hm
 rw[<-hFn]at bf;have hnv:d<=9223372036854775807:=n.out.1;have hkl:(D3 (X m)).length<=20:=by unfold D3;simpa using hmk
 have HLF:Hid (∀k,(F k).length<=60000):=Aa λk=>by
  rw[hF];dsimp only;split
  ·have:=G1 (D3 (X m)) l
   omega
  ·omega
 have HSF:Hid (∀k x,x∈F k->BY x):=Aa λk x hx=>by
  rw[hF]at hx;dsimp only at hx;split at hx
  ·rcases (Gf _ _).1 hx with h|h
   ·exact HSl.out x h
   ·obtain⟨j,hj,rfl⟩:=List.mem_map.1 h
    obtain⟨b,o,-,-,-,-,-,-,-,hK⟩:=n.out.2 m hm;obtain⟨_,_,_,_,hs⟩:=hK.2 j (by simpa using hj);exact hs
  ·exact HSl.out x hx
 clear hF hFn
 go_wp2_with fail
 go_loopw [25,169] (λv i wr => ∃(k:Nat) (a:Option Addr) (c:Nat),k<=d/\i= .int .i64 k/\v= .slice a (F k).length c/\Df wr base (.slice a (F k).length c) (F k)/\SK base C wr) (λ_ i _=>d - (intOf i).toNat)
 case atStart =>
  have h0:F 0=l:=by rw[HF.out,Ae (Ak _)]
  exact⟨0,na,nc,Ai _,rfl,by rw[h0],by rw[h0];exact HR.out,SK.refl _ _⟩
 case round =>
  obtain⟨k,a,c,hk,rfl,rfl,hT,hS⟩:=hrel
  by_cases hlt:k<d
  ·have hB0:Below g.heap.size g wr:=HB.out.trans (hS.below.mono hb0)
   obtain⟨vb,vo',rfl,c0,c1,c2,hkc,hsf,hst,hKY⟩:=(n.out.kept hB0).2 k hlt;have hlt':(k:Int)<(d:Int):=by omega
   have hk0:(0:Int)<=(k:Int):=by omega
   have hbr:base<=wr.heap.size:=Am hbC hS.below.size;generalize hX:wr.alloc (Obj.cells #[.string (X k).field,.string (X k).text,.slice (X k).ka (X k).nk (X k).kcap] 120)=X1;have p:Below wr.heap.size wr X1:=by rw[<-hX];exact BW _ _
   have hb1:X1.heap[wr.heap.size]? = some (.cells #[.string (X k).field,.string (X k).text,.slice (X k).ka (X k).nk (X k).kcap] 120 (0,0)):=by rw[<-hX];exact Ap _ _
   have x2:X1.cell? ⟨wr.heap.size,2,none⟩=some (.slice (X k).ka (X k).nk (X k).kcap):=by simp[World.cell?,hb1]
   have q:SK base C X1:=hS.trans (SK.of hbr p);have HSX:=Aa q;have HTX:=Aa (hT.kept p);have HBX0:Hid (Below g.heap.size g X1):=Aa (HB.out.trans (q.below.mono hb0));have hbX:base<=X1.heap.size:=Am hbr p.size;have HCV:Hid (X1.heap[wr.heap.size]? = some (.cells #[.string (X k).field,.string (X k).text,.slice (X k).ka (X k).nk (X k).kcap] 120 (0,0))/\(#[.string (X k).field,.string (X k).text,.slice (X k).ka (X k).nk (X k).kcap]:Array Value)[0]? = some (.string (X k).field)):=Aa ⟨hb1,rfl⟩;have HCO1:Hid (X1.heap[bo]? = some (.cells vo 92 (0,0))/\vo[2]? = some (.string fl)):=Aa ⟨q.keep _ _ _ HCO.out.1 (by decide),HCO.out.2⟩;have HKY1:Hid (CF g (X k).ka (X k).nk (X k).K):=Aa (by
    obtain⟨_,_,_,_,_,_,_,_,_,hK⟩:=n.out.2 k hlt;exact hK)
   have hu:=HU.out k hlt;have HN:Hid (PH (eqs (X k).field fl) (F k) (X k).K (X k).nk=F (k+1)):=Aa (by
    by_cases e:k=m
    ·rw[hu.2 e,e,Ty,HF.out,HF.out,Ae (by omega),Af (by omega)]
    ·have:eqs (X k).field fl=false:=by
      cases h:eqs (X k).field fl with
      |false=>rfl
      |true=>exact absurd (hu.1 h) e
     rw[this,PU,HF.out,HF.out]
     by_cases h1:m<k
     ·rw[Af h1,Af (by omega)]
     ·rw[Ae h1,Ae (by omega)])
   have hlen:(F k).length+(if eqs (X k).field fl=true then (X k).nk else 0)<=100000:=by
    have h1:=HLF.out k
    by_cases e:eqs (X k).field fl=true
    ·rw[Af e,hu.1 e]
     rw[hu.1 e]at h1;omega
    ·rw[Ae e];omega
   clear hB0 hKY hT hS q p hb1 hu
   go_upto_block 12 with fail
   clear hX c0 c1 c2 x2;refine Rj (base:=base) (K:=(X k).K) (l:=F k) (vf:=(X k).field) (fl:=fl) HKY1 HBX0 hb0 hbX HCV HCO1 HTX (Aa (HSF.out k)) hlen (Aa ?_);intro u32 u33 u35 bg bh bi bj bk bl bm bn bp bq br bs bt bu bv bw bx bz bA bB bC bD bE bF bG bH bI bJ bK w2 a2 c2 hT2 hS2;rw[HN.out]at hT2;rw[HN.out];have HT2:=Aa hT2;have HS2:=Aa (HSX.out.trans hS2);clear hT2 hS2 HSX HTX HBX0 HCV HCO1 HKY1 hlen HN;rename_i Kx hKx;refine hKx _ _ ?_;clear hKx
   go_wp2_with fail
   go_roundw
   case rel=>exact⟨k+1,a2,c2,by omega,by go_num,rfl,HT2.out,HS2.out⟩
   case measure=>simp[intOf];omega
  ·have hkn:k=d:=by omega
   subst hkn;have HT:=Aa hT;have HS:=Aa hS;clear hT hS
   go_wp2_with fail
   exact bf.out _ _ _ _ _ _ _ _ _ _ _ _ _ _ _ _ _ _ _ _ _ _ _ _ _ _ _ _ _ _ _ _ _ _ _ _ _ _ _ _ _ _ a c HT.out HS.out
theorem QW(f:ByteArray->List ByteArray)(l:List ByteArray)(k:Nat):((l.take k).flatMap f).length<=(l.flatMap f).length:=by
 have:(l.flatMap f).length=((l.take k).flatMap f).length+((l.drop k).flatMap f).length:=by
  rw[<-Ay,<-Bf,List.take_append_drop]
 omega
theorem R4(V:Nat->LServ)(o:POwner){keys:List ByteArray}{k:Nat}(h:k<keys.length):Ep ((keys.take (k+1)).flatMap (EM V o))=(EM V o (CH keys k)).foldl CP (Ep ((keys.take k).flatMap (EM V o))):=by
 rw[I2 h,Bf];unfold Ep;rw[Bs];simp
theorem P4{Q:Exit->Act->World->Prop}{lb lo n lcap bo kc s:Nat}{ka:Option Addr}{keys:List ByteArray}{V:Nat->LServ}{fd:LField}{o:POwner}{E C:World}(HS:Hid (Dc E (some ⟨lb,lo,none⟩) n V))(HK:Hid (DX E ka keys))(hs:s<n)(bK:o.svc=(s:Int))(HO:Hid (Um V s fd o))(HB:Hid (Below E.heap.size E C))(HCO:Hid (C.heap[bo]? = some (.cells #[.int .i64 (s:Int),.string o.type,.string o.field] 92 (0,0))))(hfew:(keys.flatMap (EM V o)).length<=1200){v1 v2 v3 v4 v5 v6 v7 v8 v9 v10 v11 v12 v13 v14 v15 v16 v17 v18 v19 v20 v21 v22 v23 v26 v27 v28 v29 v30 v31 v32 v33 v34 v35 v36 v37 v38 v39 v40 v41 v42 v43 v44 v45 v46 v47 v48 v49 v50 v51 v52 v53 v54 v55 v56 v57 v58 v59 v60 v61 v62 v63 v64 v65 v66 v67 v68 v69 v70 v71 v72 v73 v74 v75 v76 v77 v78 v79 v80 v81 v82 v83 v84 v85 v86 v87 v88 v89 v90 v91 v92 v93 v94 v95 v96 v97 v98 v99 G H I J K L M N O P R S T U W Y Z aa ab ac ad ae af ag ah ai aj ak al am an ao ap aq ar zzq au av aw ax ay az aA aB aC aD v149 v150 v151 v152 v153 v154 v155 v156 v157 v158 v159 v160 v161 v162 v163 v164 v165 v166 v167 v168 v169 v170 v171 v172 v173 v174 v175 v176 v177 v178 v179 v180 v181 v182 v183 v184 v185 v186 v187 v188 v189 v190 v191 v192 v193 v194 v195 v196 v197 v198 v199 v200 v201 v202 v203 v204 v205 v206 aE aF aG aH aI aJ aK aL aM aN aO aP aQ aR aS aT aU aV aW aX aY aZ a0 a1:Value}(a2:Hid (∀(u27 u28 u30 u32 u33 u35 u148 u149 u150 u151 u152 u153 u154 u155 u156 u157 u158 u159 u160 u161 u162 u163 u164 u165 u166 u167 u168 a3 a4 a5 a7 a8 a9 ba bb bc bd be bf bg bh bi bj bk bl bm bn bp bq br bs bt bu bv bw bx bz bA bB bC bD bE bF bG u206:Value) (w':World) (na':Option Addr) (nc':Nat),Df w' C.heap.size (.slice na' (CR V o keys).length nc') (CR V o keys)->(∀x,x∈CR V o keys->BY x)->SK C.heap.size C w'->Q .normal ⟨#[.slice (some ⟨lb,lo,none⟩) n lcap,v1,v2,v3,v4,v5,v6,v7,v8,v9,v10,v11,v12,v13,v14,v15,v16,v17,v18,v19,v20,v21,v22,v23,.pointer (some ⟨bo,0,none⟩),.slice na' (CR V o keys).length nc',v26,u27,u28,v29,u30,v31,u32,u33,v34,u35,v36,v37,v38,v39,v40,v41,v42,v43,v44,v45,v46,v47,v48,v49,v50,v51,v52,v53,v54,v55,v56,v57,v58,v59,v60,v61,v62,v63,v64,v65,v66,v67,v68,v69,v70,v71,v72,v73,v74,v75,v76,v77,v78,v79,v80,v81,v82,v83,v84,v85,v86,v87,v88,v89,v90,v91,v92,v93,v94,v95,v96,v97,v98,v99,G,H,I,J,K,L,M,N,O,P,R,S,T,U,W,Y,Z,aa,ab,ac,ad,ae,af,ag,ah,ai,aj,ak,al,am,an,ao,ap,aq,ar,zzq,au,av,aw,ax,ay,az,aA,aB,aC,aD,.slice ka keys.length kc,.int .i64 (keys.length:Int),u148,u149,u150,u151,u152,u153,u154,u155,u156,u157,u158,u159,u160,u161,u162,u163,u164,u165,u166,u167,u168,a3,a4,a5,a7,a8,a9,ba,bb,bc,bd,be,bf,bg,bh,bi,bj,bk,bl,bm,bn,bp,bq,br,bs,bt,bu,bv,bw,bx,bz,bA,bB,bC,bD,bE,bF,bG,u206,aE,aF,aG,aH,aI,aJ,aK,aL,aM,aN,aO,aP,aQ,aR,aS,aT,aU,aV,aW,aX,aY,aZ,a0,a1],[]⟩ w')) :
  Code.wp Tryz.prog (GA Tryz.f24 (DW 8)) Q ⟨#[.slice (some ⟨lb,lo,none⟩) n lcap,v1,v2,v3,v4,v5,v6,v7,v8,v9,v10,v11,v12,v13,v14,v15,v16,v17,v18,v19,v20,v21,v22,v23,.pointer (some ⟨bo,0,none⟩),.slice none 0 0,v26,v27,v28,v29,v30,v31,v32,v33,v34,v35,v36,v37,v38,v39,v40,v41,v42,v43,v44,v45,v46,v47,v48,v49,v50,v51,v52,v53,v54,v55,v56,v57,v58,v59,v60,v61,v62,v63,v64,v65,v66,v67,v68,v69,v70,v71,v72,v73,v74,v75,v76,v77,v78,v79,v80,v81,v82,v83,v84,v85,v86,v87,v88,v89,v90,v91,v92,v93,v94,v95,v96,v97,v98,v99,G,H,I,J,K,L,M,N,O,P,R,S,T,U,W,Y,Z,aa,ab,ac,ad,ae,af,ag,ah,ai,aj,ak,al,am,an,ao,ap,aq,ar,zzq,au,av,aw,ax,ay,az,aA,aB,aC,aD,.slice ka keys.length kc,.int .i64 (keys.length:Int),.int .i64 0,v149,v150,v151,v152,v153,v154,v155,v156,v157,v158,v159,v160,v161,v162,v163,v164,v165,v166,v167,v168,v169,v170,v171,v172,v173,v174,v175,v176,v177,v178,v179,v180,v181,v182,v183,v184,v185,v186,v187,v188,v189,v190,v191,v192,v193,v194,v195,v196,v197,v198,v199,v200,v201,v202,v203,v204,v205,v206,aE,aF,aG,aH,aI,aJ,aK,aL,aM,aN,aO,aP,aQ,aR,aS,aT,aU,aV,aW,aX,aY,aZ,a0,a1],[]⟩ C:=by
 refine Iu ?_
 conv=>arg 2;whnf
 dsimp only;obtain⟨F,hF⟩:∃F:Nat->List ByteArray,F=λk=>Ep ((keys.take k).flatMap (EM V o)):=⟨_,rfl⟩;have HF0:Hid (F 0 = []):=Aa (by rw[hF];rfl);have HFS:Hid (∀k,k<keys.length->F (k+1)=(EM V o (CH keys k)).foldl CP (F k)):=Aa λk hk=>by rw[hF];exact R4 V o hk
 have HFn:Hid (F keys.length=CR V o keys):=Aa (by rw[hF];dsimp only;rw[Br];rfl);have HLF:Hid (∀k,(F k).length<=1200):=Aa λk=>by
  rw[hF];have h1:=Gv ((keys.take k).flatMap (EM V o));have h2:=QW (EM V o) keys k;show (Ep ((keys.take k).flatMap (EM V o))).length<=1200;omega
 have HSF:Hid (∀k x,x∈F k->BY x):=Aa λk x hx=>by
  rw[hF]at hx;have hx':=Fb.1 hx;obtain⟨key,-,g⟩:=List.mem_flatMap.1 hx';unfold EM at g;rw[bK,Ax]at g
  by_cases c:Dk (V s) o.type key=true
  ·rw[Af c]at g
   obtain⟨m,hm,ev,-,-⟩:=HO.out key c;rw[ev]at g;obtain⟨j,hj,rfl⟩:=List.mem_map.1 g;obtain⟨_,_,-,h⟩:=HS.out.2 s hs;obtain⟨_,_,_,z⟩:=OQ h.ok.things c;obtain⟨-,-,-,-,-,-,A⟩:=z;obtain⟨_,_,_,_,_,_,_,_,_,hK⟩:=A.2 m hm;obtain⟨_,_,_,_,hs⟩:=hK.2 j (by simpa using hj);exact hs
  ·rw[Ae c]at g;cases g
 rw[<-HFn.out]at a2;clear hF;have hkl:keys.length<=9223372036854775807:=HK.out.1
 go_wp2_with fail
 go_loopw [25,148] (λv i wr => ∃(k:Nat) (a:Option Addr) (c:Nat),k<=keys.length/\i= .int .i64 k/\v= .slice a (F k).length c/\Df wr C.heap.size (.slice a (F k).length c) (F k)/\SK C.heap.size C wr) (λ_ i _=>keys.length - (intOf i).toNat)
 case atStart=>exact⟨0,none,0,Ai _,rfl,by rw[HF0.out];rfl,by rw[HF0.out];exact Df.nil _ _,SK.refl _ _⟩
 case round =>
  obtain⟨k,a,c,hk,rfl,rfl,hT,p⟩:=hrel
  by_cases bL:k<keys.length
  ·have B:Below E.heap.size E wr:=HB.out.trans (p.below.mono HB.out.size)
   obtain⟨kb,ko,rfl,ck,hsk⟩:=(HK.out.kept B).2 k bL;have hlt':(k:Int)<(keys.length:Int):=by omega
   have hk0:(0:Int)<=(k:Int):=by omega
   have hbo:=p.keep _ _ _ HCO.out (by decide);obtain⟨lb1,lo1,hla,h⟩:=(HS.out.kept B).2 s hs;cases hla;have e:=Aa h;have bM:=Aa B;have q:=Aa hbo;have HT:=Aa hT;have r:=Aa p;clear B hbo h hT p
   go_upto_region 31 with fail
   clear ck;refine S7 (bo:=bo) (l:=lb) (lo:=lo) (n:=n) (lcap:=lcap) (s:=s) (ty:=o.type) (key:=CH keys k) (tp:=SZ (V s) o.type (CH keys k)) (by kernel_rfl) rfl rfl rfl hs (by simp[World.cell?,q.out]) (by simp[World.cell?,q.out]) e.out.c2 (λw1 h1=>?_) ?_
   ·have:=FL (V s).xa (V s).nx (V s).xcap (V s).X o.type (CH keys k) w1 (e.out.ok.things.kept h1)
    rw[Mk]at this;exact this
   intro b w5 u d;have D:Hid (SK C.heap.size C w5):=Aa (r.out.trans (SK.of r.out.below.size u));have bN:=Aa (HT.out.kept u);have bO:Hid (Below E.heap.size E w5):=Aa (bM.out.trans (u.mono bM.out.size));have w:=Aa ((u.block _ (Ag q.out)).trans q.out);clear u HT r q bM
   cases hh:Dk (V s) o.type (CH keys k) with
   |false =>
    have bH:SZ (V s) o.type (CH keys k)=none:=by
     have h1:=Kv (ty:=o.type) (key:=CH keys k) e.out.ok.things;rw[hh]at h1;exact Option.isNone_iff_eq_none.1 (by rw[<-Option.not_isSome,h1];rfl)
    rw[bH]at d;have HN:Hid (F (k+1)=F k):=Aa (by
     rw[HFS.out k bL];unfold EM;rw[bK,Ax,hh];rfl)
    clear hh bH e w;simp only[Cn,Act.put,Au,AD,AE,d];generalize b 152=t152;generalize b 153=t153;generalize b 154=t154;generalize b 155=t155;generalize b 156=t156;generalize b 157=t157;generalize b 158=t158;generalize b 159=t159;generalize b 160=t160;generalize b 161=t161;clear d
    go_wp2_with fail
    go_roundw
    case rel=>exact⟨k+1,a,c,by omega,by go_num,by rw[HN.out],by rw[HN.out];exact bN.out,D.out⟩
    case measure=>simp[intOf];omega
   |true =>
    obtain⟨m,hm,ev,hu,gl,-,hvr⟩:=HO.out _ hh;have HN:Hid (F (k+1)=(D3 ((CC (V s) o.type (CH keys k)).V m)).foldl CP (F k)):=Aa (by
     rw[HFS.out k bL];unfold EM;rw[bK,Ax,hh,Af rfl,ev])
    obtain⟨lb2,lo2,-,y⟩:=HS.out.2 s hs;obtain⟨tb,to_,htp,z⟩:=OQ y.ok.things hh;rw[htp]at d;obtain⟨th,bI⟩:∃th,th=CC (V s) o.type (CH keys k):=⟨_,rfl⟩;rw[<-bI]at z hm hu hvr HN;obtain⟨-,-,t2,-,-,-,A⟩:=z;have t2:=BR bO.out t2;have HVA:=Aa A;have HU:=Aa hu;have bJ:Hid (w5.heap[bo]? = some (.cells #[.int .i64 (s:Int),.string o.type,.string o.field] 92 (0,0))/\(#[.int .i64 (s:Int),.string o.type,.string o.field]:Array Value)[2]? = some (.string o.field)):=Aa ⟨w.out,rfl⟩;have hmk:=hvr.few;have hFk:=HLF.out k;have hC5:C.heap.size<=w5.heap.size:=D.out.below.size;clear hh htp ev hu hvr A bI e w y;simp only[Cn,Act.put,Au,AD,AE,d];generalize b 152=t152;generalize b 153=t153;generalize b 154=t154;generalize b 155=t155;generalize b 156=t156;generalize b 157=t157;generalize b 158=t158;generalize b 159=t159;generalize b 160=t160;generalize b 161=t161;clear d
    go_upto_block 10 with fail
    clear t2;refine Ok (base:=C.heap.size) (X:=th.V) (m:=m) (fl:=o.field) HVA hm HU hmk bO HB.out.size hC5 bJ bN (Aa (HSF.out k)) (by omega) (Aa ?_);intro u30 u32 u33 u35 a3 a4 a5 a7 a8 a9 ba bb bc bd be bf bg bh bi bj bk bl bm bn bp bq br bs bt bu bv bw bx bz bA bB bC bD bE bF bG w6 a6 c6 hT6 hS6;rw[<-HN.out]at hT6;rw[<-HN.out];have HT6:=Aa hT6;have HS6:=Aa (D.out.trans hS6);clear hT6 hS6 bN D bO HVA HU bJ HN;rename_i Kx hKx;refine hKx _ _ ?_;clear hKx
    go_wp2_with fail
    go_roundw
    case rel=>exact⟨k+1,a6,c6,by omega,by go_num,rfl,HT6.out,HS6.out⟩
    case measure=>simp[intOf];omega
  ·have hkn:k=keys.length:=by omega
   subst hkn;have HT:=Aa hT;have r:=Aa p;clear hT p
   go_wp2_with fail
   exact a2.out _ _ _ _ _ _ _ _ _ _ _ _ _ _ _ _ _ _ _ _ _ _ _ _ _ _ _ _ _ _ _ _ _ _ _ _ _ _ _ _ _ _ _ _ _ _ _ _ _ _ _ _ _ _ _ _ _ _ _ _ _ _ _ _ _ _ a c HT.out (HSF.out _) r.out
def Kl (la:Option Addr) (n lcap:Nat) (V:Nat->LServ) (L:List PPart) (pa:Option Addr) (pn pc:Nat) (d:Nat):Prop := ∀(Z:Nat->Prop) (b:Nat->Nat->Value) (g:Nat) (typ:ByteArray) (Y:Nat->Prop) (keys:List ByteArray) (ka:Option Addr) (kc:Nat) (a:Option Addr) (cap:Nat) (ps:List (Cg d)) (w:World),
 Dc w la n V->Parts Z w (.slice pa pn pc) L b->pa=some ⟨g,0,none⟩->ps≠[]->¬Ca L.length (DI L) typ<0->cR L.length (DI L) d (Du L typ).fs.length (De (Du L typ)) [] ps=0->Sm d ps->CB w d a ps->(∀q,Y q->q<w.heap.size)->EA Y w (λw=>DX w ka keys)->keys.length<=kc->keys.Nodup->(DA V L d (Du L typ) keys ps).length<=1000 ->
 Calls Tryz.prog 24 #[.slice la n lcap,.slice pa pn pc,.pointer (some ⟨g,(Fd L typ).toNat*4,none⟩),.slice ka keys.length kc,.slice a ps.length cap] w λe w'=>(∃v kv fv,e= .returned v/\QRow w.heap.size Y w' v (DA V L d (Du L typ) keys ps) kv fv)/\Below w.heap.size w w'
theorem QRow.news{N:Nat}{Y:Nat->Prop}{w:World}{a:Option Addr}{c:Nat}{M:List PReq}{kv fv:Nat->Value}(h:QRow N Y w (.slice a M.length c) M kv fv):(∀b,a=some b->∀j u,((List.range (M.length*4)).map (Dl M kv fv))[j]? = some u->w.cell? (b.add j)=some u)/\(a=none->M.length=0):=by
 rcases h.row.shape with⟨e,h0⟩|⟨g,cap,e,-,-,-⟩
 ·injection e with e1 _ _
  subst e1;exact⟨(λb ha=>by cases ha),λ_=>h0⟩
 ·injection e with e1 _ e3
  subst e1 e3;refine⟨λb ha j u d=>?_,λh=>by cases h⟩;cases ha;have k:j<M.length*4:=by
   have:=(List.getElem?_eq_some_iff.1 d).1;simpa using this
  rw[AV,AQ k]at d;have i:u=Dl M kv fv j:=by simpa using d.symm
  rw[AO,i,AL];exact h.row.cell k
theorem QRow.one{N:Nat}{Y:Nat->Prop}{w:World}{v:Value}{M:List PReq}{kv fv:Nat->Value}(h:QRow N Y w v M kv fv):∀u∈(List.range (M.length*4)).map (Dl M kv fv),u.oneCell'=true:=by
 intro u a;obtain⟨j,b,rfl⟩:=List.mem_map.1 a;have c:j<M.length*4:=by simpa using b
 obtain⟨A,C,A2,C2,e1,e2,-⟩:=h.sub (j / 4) (by omega);unfold Dl;split
 ·rfl
 ·split
  ·rfl
  ·split
   ·rw[e1];rfl
   ·rw[e2];rfl
structure MoreP (w0 W:World) (Y:Nat->Prop) (S M:List PReq) (vS:Value) (St:World->Prop) (j:Nat) (x:Nat->Value) (w:World):Prop where
 st:St w
 low:Below w0.heap.size w0 w
 old:j<=2->x 2=vS
 b0:j<=1->Below W.heap.size W w
 b1:j=1->∃N1 kv fv,QRow N1 (λq=>Y q\/vS.ownBlock=some q) w (x 0) M kv fv
 b2:2<=j->∃kv fv,QRow w0.heap.size Y w (x 1) (S++M) kv fv
 b3:j=3->x 2=x 1
theorem MoreP.below{d W:World}{Y:Nat->Prop}{S M:List PReq}{e:Value}{b:World->Prop}(c:∀w w',b w->Below w.heap.size w w'->b w'){j:Nat}{x:Nat->Value}{w w':World}(h:MoreP d W Y S M e b j x w)(hB:Below w.heap.size w w'):MoreP d W Y S M e b j x w' :=
 ⟨c _ _ h.st hB,h.low.trans (hB.mono h.low.size),h.old,λa=>(h.b0 a).trans (hB.mono (h.b0 a).size),λa=>let ⟨N1,kv,fv,hq⟩:=h.b1 a;⟨N1,kv,fv,hq.kept hB⟩,λa=>let ⟨kv,fv,hq⟩:=h.b2 a;⟨kv,fv,hq.kept hB⟩,h.b3⟩
theorem Se{k W:World}{Y:Nat->Prop}{S M:List PReq}{d:Value}{l:World->Prop}{kv fv:Nat->Value}{i0:TypeInfo}{z:Value}(hi:Tryz.prog.info? 68=some i0)(y:i0.zero=some z)(hs:i0.size=4)(hb:i0.bytes=72)(n:z.cells.size=4)(A:QRow k.heap.size Y W d S kv fv)(u:S.length+M.length<=1000)(o:∀w w',l w->w.grownBy w' d.ownBlock->l w')(x:Nat->Value)(w:World)(h:MoreP k W Y S M d l 1 x w)(ty:TypeId) :
  ∃v w',(Builtin.append_ #[32,32] ty #[d,x 0]).run Tryz.prog w= .ok v w'/\∀m,m 1=v->(∀i,i≠1->m i=x i)->MoreP k W Y S M d l 2 m w':=by
 obtain⟨N1,p,r,e⟩:=h.b1 rfl;have hB:=h.b0 (by omega);have b:=A.kept hB;obtain⟨a,c,hx,-⟩:=e.slice;rw[hx]at e;obtain⟨n1,n2⟩:=e.news;obtain⟨B,w',C,g,hg,hv⟩:=DG (P:=Tryz.prog) w k.heap.size 32 ty 68 i0 z 4 72 Tryz.underlying32 hi y hs hb n (by decide) d S.length _ b.row a M.length c ((List.range (M.length*4)).map (Dl M p r)) (by simp) n1 n2 e.one (by unfold maxLen;omega) (by omega) h.low.size;have s:=b.join e (λq _ hx=>.inl hx) g hg hv;refine⟨B,w',by rw[hx];exact C,λm e1 e2=>⟨o _ _ h.st hg,h.low.grown hg h.low.size (λq hq=>(b.row.lt hq).1),λ_=>by rw[e2 2 (by decide)];exact h.old (by omega),λj=>absurd j (by omega),λj=>absurd j (by omega),λ_=>⟨_,_,by rw[e1];exact s⟩,λj=>absurd j (by omega)⟩⟩
theorem OL{α β:Type}{f : α->List β}{l:List α}{k:Nat}(h:k<l.length):(l.take (k+1)).flatMap f=(l.take k).flatMap f++f l[k]:=by
 rw[AS h,Bf];simp
theorem Tc{α β:Type}(f:α->List β)(l:List α)(k:Nat):((l.take k).flatMap f).length<=(l.flatMap f).length:=by
 have:(l.flatMap f).length=((l.take k).flatMap f).length+((l.drop k).flatMap f).length:=by
  rw[<-Ay,<-Bf,List.take_append_drop]
 omega
theorem Nj{Q:Exit->Act->World->Prop}{lb lo n lcap g i pc kc ac d c1 c2 c3 vc:Nat}{aa a1 a2 a3 ka va:Option Addr}{V:Nat->LServ}{L:List PPart}{p:PPart}{keys:List ByteArray}{ps:List (Cg (d+1))}{Y:Nat->Prop}{R:List PReq}{kvR fvR:Nat->Value}{l C:World}(HS:Hid (Dc l (some ⟨lb,lo,none⟩) n V))(HPA:Hid (∃Z rv,Parts Z l (.slice (some ⟨g,0,none⟩) L.length pc) L rv))(hlp:0<L.length)(y:Hid (PtAt l g (i*4) p a1 a2 a3 c1 c2 c3))(HGP:Hid (GPart n V p))(HIH:Hid (Kl (some ⟨lb,lo,none⟩) n lcap V L (some ⟨g,0,none⟩) L.length pc d))(HP:Hid (CB l (d+1) aa ps))(HSm:Hid (Sm (d+1) ps))(HAsk:Hid (∀j,j<ps.length->¬BX p.fs.length (De p) (BT (BS ps j))<0/\Rz L d (EQ p (BT (BS ps j))) (subs (BS ps j))))(HY:Hid (∀q,Y q->q<l.heap.size))(HK:Hid (EA Y l (λw=>DX w ka keys)))(HKN:Hid keys.Nodup)(HB:Hid (Below l.heap.size l C))(HQ:Hid (QRow l.heap.size Y C (.slice va R.length vc) R kvR fvR))(hlen:R.length+(ps.flatMap (DF V L (DA V L d) p keys)).length<=1000){v4 v5 v6 v7 v8 v9 v10 v12 v13 v14 v15 v16 v17 v18 v19 v20 v21 v22 v23 v24 v25 v26 v27 v28 v29 v30 v31 v32 v33 v34 v35 v36 v37 v38 v39 v40 v41 v42 v43 v44 v45 v46 v47 v48 v49 v50 v51 v52 v53 v54 v55 v56 v57 v58 v59 v60 v61 v62 v63 v64 v65 v66 v67 v68 v69 v70 v71 v72 v73 v74 v75 v76 v77 v78 v79 v80 v81 v82 v83 v84 v85 v86 v87 v88 v89 v90 v91 v92 v93 v94 v95 v96 v97 v98 v99 v100 v101 v102 v103 v104 v105 v106 v107 v108 v109 v110 v111 v112 v113 v114 v118 v119 v120 v121 v122 v123 v124 v125 v126 v127 v128 v129 v130 v131 v132 v133 v134 v135 v136 v137 v138 v139 v140 v141 v142 v143 v144 v145 v146 v147 v148 v149 v150 v151 v152 v153 v154 v155 v156 v157 v158 v159 v160 v161 v162 v163 v164 v165 v166 v167 v168 v169 v170 v171 v172 v173 v174 v175 v176 v177 v178 v179 v180 v181 v182 v183 v184 v185 v186 v187 v188 v189 v190 v191 v192 v193 v194 v195 v196 v197 v198 v199 v200 v201 v202 v203 v204 v205 v206 v207 v208 v209 v210 v211 v212 v213 v214 v215 v216 v217 v218 v219 v220 v221 v222 v223 v224 v225 v226 v227 v228 v229 v230:Value}(HEND:Hid (∀(u22 u23 u24 u25 u27 u28 u30 u32 u33 u35 u117 u118 u119 u120 u121 u122 u123 u124 u125 u126 u127 u128 u129 u130 u131 u132 u133 u134 u135 u136 u137 u138 u139 u140 u141 u142 u143 u144 u145 u146 u147 u148 u149 u150 u151 u152 u153 u154 u155 u156 u157 u158 u159 u160 u161 u162 u163 u164 u165 u166 u167 u168 u169 u170 u171 u172 u173 u174 u175 u176 u177 u178 u179 u180 u181 u182 u183 u184 u185 u186 u187 u188 u189 u190 u191 u192 u193 u194 u195 u196 u197 u198 u199 u200 u201 u202 u203 u204 u205 u206 u207 u208 u209 u210 u211 u212 u213 u214 u215 u216 u217 u218 u219 u220 u221 u222 u223 u224 u225 u226 u227 u228 u229:Value) (w':World) (vq:Value) (kv fv:Nat->Value),QRow l.heap.size Y w' vq (R++ps.flatMap (DF V L (DA V L d) p keys)) kv fv->Below l.heap.size l w'->Q .normal ⟨#[.slice (some ⟨lb,lo,none⟩) n lcap,.slice (some ⟨g,0,none⟩) L.length pc,.pointer (some ⟨g,i*4,none⟩),.slice ka keys.length kc,v4,v5,v6,v7,v8,v9,v10,vq,v12,v13,v14,v15,v16,v17,v18,v19,v20,v21,u22,u23,u24,u25,v26,u27,u28,v29,u30,v31,u32,u33,v34,u35,v36,v37,v38,v39,v40,v41,v42,v43,v44,v45,v46,v47,v48,v49,v50,v51,v52,v53,v54,v55,v56,v57,v58,v59,v60,v61,v62,v63,v64,v65,v66,v67,v68,v69,v70,v71,v72,v73,v74,v75,v76,v77,v78,v79,v80,v81,v82,v83,v84,v85,v86,v87,v88,v89,v90,v91,v92,v93,v94,v95,v96,v97,v98,v99,v100,v101,v102,v103,v104,v105,v106,v107,v108,v109,v110,v111,v112,v113,v114,.slice aa ps.length ac,.int .i64 (ps.length:Int),u117,u118,u119,u120,u121,u122,u123,u124,u125,u126,u127,u128,u129,u130,u131,u132,u133,u134,u135,u136,u137,u138,u139,u140,u141,u142,u143,u144,u145,u146,u147,u148,u149,u150,u151,u152,u153,u154,u155,u156,u157,u158,u159,u160,u161,u162,u163,u164,u165,u166,u167,u168,u169,u170,u171,u172,u173,u174,u175,u176,u177,u178,u179,u180,u181,u182,u183,u184,u185,u186,u187,u188,u189,u190,u191,u192,u193,u194,u195,u196,u197,u198,u199,u200,u201,u202,u203,u204,u205,u206,u207,u208,u209,u210,u211,u212,u213,u214,u215,u216,u217,u218,u219,u220,u221,u222,u223,u224,u225,u226,u227,u228,u229,v230],[]⟩ w')) :
  Code.wp Tryz.prog (GA Tryz.f24 (DW 6)) Q ⟨#[.slice (some ⟨lb,lo,none⟩) n lcap,.slice (some ⟨g,0,none⟩) L.length pc,.pointer (some ⟨g,i*4,none⟩),.slice ka keys.length kc,v4,v5,v6,v7,v8,v9,v10,.slice va R.length vc,v12,v13,v14,v15,v16,v17,v18,v19,v20,v21,v22,v23,v24,v25,v26,v27,v28,v29,v30,v31,v32,v33,v34,v35,v36,v37,v38,v39,v40,v41,v42,v43,v44,v45,v46,v47,v48,v49,v50,v51,v52,v53,v54,v55,v56,v57,v58,v59,v60,v61,v62,v63,v64,v65,v66,v67,v68,v69,v70,v71,v72,v73,v74,v75,v76,v77,v78,v79,v80,v81,v82,v83,v84,v85,v86,v87,v88,v89,v90,v91,v92,v93,v94,v95,v96,v97,v98,v99,v100,v101,v102,v103,v104,v105,v106,v107,v108,v109,v110,v111,v112,v113,v114,.slice aa ps.length ac,.int .i64 (ps.length:Int),.int .i64 0,v118,v119,v120,v121,v122,v123,v124,v125,v126,v127,v128,v129,v130,v131,v132,v133,v134,v135,v136,v137,v138,v139,v140,v141,v142,v143,v144,v145,v146,v147,v148,v149,v150,v151,v152,v153,v154,v155,v156,v157,v158,v159,v160,v161,v162,v163,v164,v165,v166,v167,v168,v169,v170,v171,v172,v173,v174,v175,v176,v177,v178,v179,v180,v181,v182,v183,v184,v185,v186,v187,v188,v189,v190,v191,v192,v193,v194,v195,v196,v197,v198,v199,v200,v201,v202,v203,v204,v205,v206,v207,v208,v209,v210,v211,v212,v213,v214,v215,v216,v217,v218,v219,v220,v221,v222,v223,v224,v225,v226,v227,v228,v229,v230],[]⟩ C:=by
 refine Iu ?_
 conv=>arg 2;whnf
 dsimp only;obtain⟨i0,hi0,hz0,hz1,hz2⟩:=Cd Tryz.info68;have hps:ps.length<=60:=HSm.out.1;have hps':ps.length<=9223372036854775807:=by omega
 obtain⟨F,hF⟩:∃F:Nat->List PReq,F=λk=>R++(ps.take k).flatMap (DF V L (DA V L d) p keys):=⟨_,rfl⟩;have HF0:Hid (F 0=R):=Aa (by rw[hF];simp);have HFS:Hid (∀k,k<ps.length->F (k+1)=F k++DF V L (DA V L d) p keys (BS ps k)):=Aa λk hk=>by
  rw[hF];dsimp only;rw[OL hk,CL hk,AR]
 have hFn:F ps.length=R++ps.flatMap (DF V L (DA V L d) p keys):=by rw[hF];dsimp only;rw[Br]
 have HLF:Hid (∀k,(F k).length<=1000):=Aa λk=>by
  rw[hF];have:=Tc (DF V L (DA V L d) p keys) ps k;show (R++(ps.take k).flatMap (DF V L (DA V L d) p keys)).length<=1000;rw[Ay];omega
 rw[<-hFn]at HEND;clear hF hFn hlen;have hkl:keys.length<=9223372036854775807:=HK.out.at.1
 go_wp2_with fail
 go_loopw [11,117] (λv i wr => ∃(k:Nat) (kv fv:Nat->Value),k<=ps.length/\i= .int .i64 k/\QRow l.heap.size Y wr v (F k) kv fv/\Below l.heap.size l wr) (λ_ i _=>ps.length - (intOf i).toNat)
 case atStart=>exact⟨0,kvR,fvR,Ai _,rfl,by rw[HF0.out];exact HQ.out,HB.out⟩
 case round =>
  obtain⟨k,kv,fv,hk,rfl,hQ,hw⟩:=hrel;obtain⟨G,H,hva9,-⟩:=hQ.slice;subst hva9
  by_cases z:k<ps.length
  ·obtain⟨b,o,A,C9,hab,q0,q1,q2,hC9,s0,s1,hPs⟩:=HP.out.2 k z
   subst hab;have q0:=BR hw q0;have q1:=BR hw q1;have q2:=BR hw q2;have hlt':(k:Int)<(ps.length:Int):=by omega
   have hk0:(0:Int)<=(k:Int):=by omega
   obtain⟨hf',hz⟩:=HAsk.out k z;have hf : ¬BX p.fs.length (De p) (BT (BS ps k))<0:=by omega
   obtain⟨a,N⟩:∃a:Nat,BX p.fs.length (De p) (BT (BS ps k))=(a:Int):=⟨(BX p.fs.length (De p) (BT (BS ps k))).toNat,by omega⟩;have hfl:a<p.fs.length:=by
    have h1:=(E4 (p:=λj=>eqs (De p j).name (BT (BS ps k))) hf).1;have h2:Ds p.fs.length (λj=>eqs (De p j).name (BT (BS ps k)))=(a:Int):=N;rw[h2]at h1;simpa using h1
   have hfo:a<p.os.length:=by rw[HGP.out.r.os];exact hfl
   have ef:EQ p (BT (BS ps k))=De p a:=by unfold EQ;rw[N,Ax]
   have eo:Dd p (BT (BS ps k))=D1 p a:=by unfold Dd;rw[N,Ax]
   obtain⟨s_,hs,hsv,hOR⟩:=HGP.out.r.owner (BT (BS ps k)) hf;have hmem:BS ps k∈ps:=by rw[CL z];exact AW z
   have O:=On HGP.out (ps:=ps) (λq hq=>by
    obtain⟨j,I,rfl⟩:=List.mem_iff_getElem.1 hq;rw[<-CL I];have:=(HAsk.out j I).1;omega) hmem HKN.out
   rw[ef]at hz hOR;rw[eo]at hsv hOR O;obtain⟨fb,fo,hfa,f0,f1,f2,-⟩:=y.out.fields.2 a hfl;subst hfa;obtain⟨ob,oo,hoa,o0,o1,o2,-⟩:=y.out.owners.2 a hfo;subst hoa;have HGK:Hid (DF V L (DA V L d) p keys (BS ps k)=if (De p a).kind=1 then [] else if CR V (D1 p a) keys = [] then [] else DA V L d (Du L (De p a).type) (CR V (D1 p a) keys) (subs (BS ps k))):=Aa (by unfold DF;rw[ef,eo])
   generalize hX:wr.alloc (Obj.cells #[.string (Di (BS ps k)),.string (BT (BS ps k)),.slice A (subs (BS ps k)).length C9] 72)=X1;have hBX:Below wr.heap.size wr X1:=by rw[<-hX];exact BW _ _
   have HBK:Hid (X1.heap[wr.heap.size]? = some (.cells #[.string (Di (BS ps k)),.string (BT (BS ps k)),.slice A (subs (BS ps k)).length C9] 72 (0,0))):=Aa (by rw[<-hX];exact Ap _ _);have HXr:=Aa hBX;have J:Hid (Below l.heap.size l X1):=Aa (hw.trans (hBX.mono hw.size));have HFI:=Aa N;have HF:Hid (l.cell? ⟨fb,fo+a*3+1,none⟩=some (.int .i64 (De p a).kind)/\l.cell? ⟨fb,fo+a*3+2,none⟩=some (.string (De p a).type)):=Aa ⟨f1,f2⟩;have HO:Hid (l.cell? ⟨ob,oo+a*3,none⟩=some (.int .i64 (D1 p a).svc)/\l.cell? ⟨ob,oo+a*3+1,none⟩=some (.string (D1 p a).type)/\l.cell? ⟨ob,oo+a*3+2,none⟩=some (.string (D1 p a).field)):=Aa ⟨o0,o1,o2⟩;have P:=Aa hQ;have HZ:=Aa hz;have HPs:=Aa hPs;have HOR:Hid (Um V s_ (De p a) (D1 p a)):=Aa hOR;have HFW:=Aa O;have HSV:=Aa hsv;have hNr:l.heap.size<=wr.heap.size:=hw.size;clear hw hBX hQ N hf hf' hz hOR hsv O ef eo f0 f1 f2 o0 o1 o2 hPs s0 s1 hC9 hmem
   go_upto_region 24 with fail
   clear hX q0 q1 q2;refine U5 (g:=g) (o:=i*4) (bk:=wr.heap.size) (i:=a) (pf:=BT (BS ps k)) (by kernel_rfl) rfl rfl (BR J.out y.out.c1) (by simp[World.cell?,HBK.out]) (λw1 h1=>?_) ?_
   ·have:=Gs (some ⟨fb,fo,none⟩) p.fs.length c1 (De p) (BT (BS ps k)) w1 (y.out.fields.kept (J.out.trans (h1.mono J.out.size)))
    rw[HFI.out]at this;exact this
   intro st w2 hB2 hs23;have u:Hid (Below l.heap.size l w2):=Aa (J.out.trans (hB2.mono J.out.size));have HR2:Hid (Below wr.heap.size wr w2):=Aa (HXr.out.trans (hB2.mono HXr.out.size));have S:=Aa ((hB2.block _ (Ag HBK.out)).trans HBK.out);have p1:=BR u.out y.out.c1;have p2:=BR u.out y.out.c2;have f1:=BR u.out HF.out.1;have o0:=BR u.out HO.out.1;have o1:=BR u.out HO.out.2.1;have o2:=BR u.out HO.out.2.2;rw[HSV.out]at o0;have hfl':(a:Int)<(p.fs.length:Int):=by omega
   have hfo':(a:Int)<(p.os.length:Int):=by omega
   have hfi0:(0:Int)<=(a:Int):=by omega
   clear hB2 J HXr HBK HFI;simp only[Cn,Act.put,Au,AD,AE,hs23];generalize st 121=t121;generalize st 122=t122;generalize st 123=t123;generalize st 124=t124;generalize st 125=t125;generalize st 126=t126;generalize st 127=t127;generalize st 128=t128;clear hs23
   by_cases B:(De p a).kind=1
   ·have HN:Hid (F (k+1)=F k):=Aa (by rw[HFS.out k z,HGK.out,Af B,Bm])
    rw[B]at f1;have HQ2:=Aa (P.out.kept HR2.out);clear B HGK P HZ HPs HOR HFW HSV HF HO
    go_wp2_with fail
    go_roundw
    case rel=>exact⟨k+1,kv,fv,by omega,by go_num,by rw[HN.out];exact HQ2.out,u.out⟩
    case measure=>simp[intOf];omega
   ·have hkb:((De p a).kind==1)=false:=by simpa using B
    rcases HZ.out with⟨h9,-⟩|⟨-,hsne,hpi9,hcR9⟩
    ·exact absurd h9 B
    have HKD:=Aa B;have HPI:=Aa hpi9;have HCR:=Aa hcR9;have HSN:=Aa hsne;clear B hpi9 hcR9 hsne HZ
    go_upto_block 8 with fail
    generalize hX3:w2.alloc (Obj.cells #[.int .i64 (s_:Int),.string (D1 p a).type,.string (D1 p a).field] 92)=X3;have hB3:Below w2.heap.size w2 X3:=by rw[<-hX3];exact BW _ _
    have HBO:Hid (X3.heap[w2.heap.size]? = some (.cells #[.int .i64 (s_:Int),.string (D1 p a).type,.string (D1 p a).field] 92 (0,0))):=Aa (by rw[<-hX3];exact Ap _ _);have HB3:Hid (Below l.heap.size l X3):=Aa (u.out.trans (hB3.mono u.out.size));have HR3:Hid (Below wr.heap.size wr X3):=Aa (HR2.out.trans (hB3.mono HR2.out.size));have HBK3:=Aa ((hB3.block _ (Ag S.out)).trans S.out);clear hX3 hB3 p1 p2 f1 o0 o1 o2 hkb;refine P4 (s:=s_) (V:=V) (o:=D1 p a) (fd:=De p a) HS (Aa HK.out.at) hs HSV.out HOR HB3 HBO HFW.out (Aa ?_);intro y27 y28 y30 y32 y33 y35 y148 y149 y150 y151 y152 y153 y154 y155 y156 y157 y158 y159 y160 y161 y162 y163 y164 y165 y166 y167 y168 y169 y170 y171 y172 y173 y174 y175 y176 y177 y178 y179 y180 y181 y182 y183 y184 y185 y186 y187 y188 y189 y190 y191 y192 y193 y194 y195 y196 y197 y198 y199 y200 y201 y202 y203 y204 y205 y206 w4 na nc hT hSmN hSK;have hR4:Below wr.heap.size wr w4:=HR3.out.trans (hSK.below.mono HR3.out.size);have T:=Aa (P.out.kept hR4);have U:Hid (Below l.heap.size l w4):=Aa (HB3.out.trans (hSK.below.mono HB3.out.size));have HBK4:=Aa (hSK.keep _ _ _ HBK3.out (by decide));have W:∀q,(Value.slice G (F k).length H).ownBlock=some q->q<wr.heap.size:=λq hq=>(P.out.row.lt hq).2;have hwr4:wr.heap.size<=X3.heap.size:=HR3.out.size;have HRW:=Aa W;have HTN:=Aa hT;have X:=Aa hSmN;clear hT hSmN hSK hR4 W P HR2 HR3 S HBK3 u HB3 HBO HOR HSV HO;rename_i Kx hKx;refine hKx _ _ ?_;clear hKx
    by_cases K:CR V (D1 p a) keys = []
    ·have hl0:(CR V (D1 p a) keys).length=0:=by rw[K];rfl
     have HN:Hid (F (k+1)=F k):=Aa (by rw[HFS.out k z,HGK.out,Ae HKD.out,Af K,Bm]);rw[hl0];clear K HTN X HKD HPI HCR HSN hl0 HRW
     go_wp2_with fail
     go_roundw
     case rel=>exact⟨k+1,kv,fv,by omega,by go_num,by rw[HN.out];exact T.out,U.out⟩
     case measure=>simp[intOf];omega
    ·have hpos:0<(CR V (D1 p a) keys).length:=List.length_pos_iff.2 K
     have hpos':(0:Int)<((CR V (D1 p a) keys).length:Int):=by omega
     obtain⟨M,hM⟩:∃M,M=DA V L d (Du L (De p a).type) (CR V (D1 p a) keys) (subs (BS ps k)):=⟨_,rfl⟩;have HN:Hid (F (k+1)=F k++M):=Aa (by rw[HFS.out k z,HGK.out,Ae HKD.out,Ae K,hM]);have hlM:(F k).length+M.length<=1000:=by
      have:=HLF.out (k+1);rw[HN.out,Ay]at this;exact this
     obtain⟨i2,hi2,hil2,-⟩:=FS HPI.out;obtain⟨Z9,rv9,hPa9⟩:=HPA.out;have hnl:=hpos;obtain⟨na',nc',hac,hnc,hTx⟩:=HTN.out.at (by have:=Gv (keys.flatMap (EM V (D1 p a)));have:=HFW.out;unfold CR maxLen;omega) X.out;cases hac;have hTl:∀q,(Value.slice na (CR V (D1 p a) keys).length nc).ownBlock=some q->X3.heap.size<=q:=λq hq=>(B9.lt HTN.out hq).1;have HFR:Hid (∀w5,Below w4.heap.size w4 w5->EA (λq=>Y q\/(Value.slice G (F k).length H).ownBlock=some q) w5 (λw=>DX w na (CR V (D1 p a) keys))):=Aa λw5 h5=>(hTx.kept h5).free λad had hx=>by
      have hq:(Value.slice na (CR V (D1 p a) keys).length nc).ownBlock=some ad.block:=by rw[had];rfl
      have h9:=hTl _ hq;rcases hx with hx|hx
      ·have:=HY.out _ hx;omega
      ·have:=HRW.out _ hx;omega
     have ab:=Aa hPa9;have HMD:=Aa hM;have HI2:=Aa hi2;have hvl:∀q,(Value.slice G (F k).length H).ownBlock=some q->l.heap.size<=q:=λq hq=>(T.out.row.lt hq).1;have HVL:=Aa hvl;clear K hM hTx hTl hPa9 hi2 hvl hnl
     go_upto_region 51 with fail
     refine TY (MoreP l w4 Y (F k) M (.slice G (F k).length H) (λw=>w.cell? ⟨g,i*4+1,none⟩=some (.slice (some ⟨fb,fo,none⟩) p.fs.length c1)/\w.cell? ⟨fb,fo+a*3+2,none⟩=some (.string (De p a).type)/\w.heap[wr.heap.size]? = some (.cells #[.string (Di (BS ps k)),.string (BT (BS ps k)),.slice A (subs (BS ps k)).length C9] 72 (0,0))))
      (g:=g) (o:=i*4) (f:=fb) (fo:=fo) (fn:=p.fs.length) (fc:=c1) (bk:=wr.heap.size) (rn:=(F k).length) (rc:=H) (ra:=G) (i:=a) (pp:=⟨g,i2*4,none⟩) (fty:=(De p a).type) (sa:=A) (sn:=(subs (BS ps k)).length) (sc:=C9) (by kernel_rfl) rfl rfl rfl rfl rfl rfl hfl ?_ ?_ ?_ ?_ ?_ ?_ ?_ ?_
     ·refine⟨⟨?_,?_,?_⟩,U.out.drew,λ_=>rfl,λ_=>(Aq _ _).drew,λh=>absurd h (by omega),λh=>absurd h (by omega),λh=>absurd h (by omega)⟩
      ·exact BR U.out y.out.c1
      ·exact BR U.out HF.out.2
      ·exact HBK4.out
     ·intro j x w I h
      obtain⟨t1,t2,t3⟩:=h.st;exact⟨t1,t2,by simp[World.cell?,t3],h.old (by omega)⟩
     ·intro x w h
      have hB:=h.b0 (by omega);have hW:=h.low;have hcl:=HIH.out Z9 rv9 g (De p a).type (λq=>Y q\/(Value.slice G (F k).length H).ownBlock=some q) (CR V (D1 p a) keys) na nc A C9 (subs (BS ps k)) w (HS.out.kept hW) (ab.out.kept' hW) rfl HSN.out (by have:=HPI.out;omega) HCR.out (HSm.out.2 k z) (HPs.out.kept hW) (λq hq=>by
       have hs4:=hB.size;have hs5:=hW.size;rcases hq with hq|hq
       ·have:=HY.out q hq;omega
       ·have:=(T.out.row.lt hq).2;omega) (HFR.out w hB) hnc (Ip _) (by rw[<-HMD.out];omega)
      rw[HI2.out,Ax,<-HMD.out]at hcl;refine hcl.mono λe w' hh=>?_;obtain⟨⟨v,kv1,fv1,rfl,hq⟩,hb⟩:=hh;refine⟨v,rfl,λx' e1 e2=>?_⟩;have h2:=h.below (λw w' m D=>⟨BR D m.1,BR D m.2.1,(D.block _ (Ag m.2.2)).trans m.2.2⟩) hb;exact⟨h2.st,h2.low,λ_=>by rw[e2 2 (by decide)];exact h2.old (by omega),λ_=>h2.b0 (by omega),λ_=>⟨_,kv1,fv1,by rw[e1];exact hq⟩,λI=>absurd I (by omega),λI=>absurd I (by omega)⟩
     ·intro x w h ty
      exact Se hi0 hz0 hz1 hz2 rfl T.out hlM (λw w' m hg=>by
       obtain⟨t1,t2,t3⟩:=m;refine⟨?_,?_,?_⟩
       ·rw[Aw (hg.block _ (An t1) (λe=>by have h1:=HVL.out _ e.symm;have h2:=An y.out.c1;have h2':g<l.heap.size:=h2;have h1':l.heap.size<=g:=h1;omega))];exact t1
       ·rw[Aw (hg.block _ (An t2) (λe=>by have h1:=HVL.out _ e.symm;have h2:=An HF.out.2;have h2':fb<l.heap.size:=h2;have h1':l.heap.size<=fb:=h1;omega))];exact t2
       ·exact(hg.block _ (Ag t3) (λe=>by have:=HRW.out _ e.symm;omega)).trans t3) x w h ty
     ·intro x w h x' e1 e2
      exact⟨h.st,h.low,λI=>absurd I (by omega),λI=>absurd I (by omega),λI=>absurd I (by omega),λ_=>by rw[e2 1 (by decide)];exact h.b2 (by omega),λ_=>by rw[e1,e2 1 (by decide)]⟩
     ·intro j x w h
      refine(Gh Z9 (some ⟨g,0,none⟩) L.length pc L rv9 (De p a).type w (ab.out.kept' h.low)).mono λe w' hh=>?_;obtain⟨⟨g',hg',rfl⟩,hb⟩:=hh;cases hg' hlp;rw[GG HI2.out];exact⟨rfl,hb⟩
     ·intro j x w w' h hb
      exact h.below (λw w' m D=>⟨BR D m.1,BR D m.2.1,(D.block _ (Ag m.2.2)).trans m.2.2⟩) hb
     intro c w5 E;obtain⟨kv5,fv5,ae⟩:=E.b2 (by omega);have hx5:c 11=c 228:=E.b3 rfl;replace ae:QRow l.heap.size Y w5 (c 228) (F k++M) kv5 fv5:=ae;rw[<-hx5,<-HN.out]at ae;have HQ5:=Aa ae;have HB5:=Aa E.low;clear E ae hx5 T U HBK4 HTN X HFR ab HMD HI2 HVL HKD HPI HCR HSN hpos hpos' HRW;simp only[Cn,Act.put,Au,AD,AE];generalize c 210=t210;generalize c 211=t211;generalize c 212=t212;generalize c 213=t213;generalize c 214=t214;generalize c 215=t215;generalize c 216=t216;generalize c 217=t217;generalize c 218=t218;generalize c 219=t219;generalize c 220=t220;generalize c 221=t221;generalize c 222=t222;generalize c 223=t223;generalize c 224=t224;generalize c 225=t225;generalize c 226=t226;generalize c 227=t227;generalize c 228=t228;generalize c 11=t11 at *;clear c
     go_wp2_with fail
     go_roundw
     case rel=>exact⟨k+1,kv5,fv5,by omega,by go_num,HQ5.out,HB5.out⟩
     case measure=>simp[intOf];omega
  ·have hkn:k=ps.length:=by omega
   subst hkn;have HQ9:=Aa hQ;have HW9:=Aa hw;clear hQ hw
   go_wp2_with fail
   exact HEND.out _ _ _ _ _ _ _ _ _ _ _ _ _ _ _ _ _ _ _ _ _ _ _ _ _ _ _ _ _ _ _ _ _ _ _ _ _ _ _ _ _ _ _ _ _ _ _ _ _ _ _ _ _ _ _ _ _ _ _ _ _ _ _ _ _ _ _ _ _ _ _ _ _ _ _ _ _ _ _ _ _ _ _ _ _ _ _ _ _ _ _ _ _ _ _ _ _ _ _ _ _ _ _ _ _ _ _ _ _ _ _ _ _ _ _ _ _ _ _ _ _ _ _ _ _ kv fv HQ9.out HW9.out
end Go.Proofs.YtjjggefmmeminabGreat
