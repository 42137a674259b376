import Derived.Test.YtjjggefmmeminabGreatRqTos
import Derived.Test.YtjjggefmmeminabGreatRqReg
import Derived.Test.YtjjggefmmeminabGreatJRg
import Derived.Test.YtjjggefmmeminabGreatGrReply
set_option maxRecDepth 100000
set_option maxHeartbeats 80000000
namespace Go.Proofs.YtjjggefmmeminabGreat
open Go.RowKit Go.Sort Go.PlainAid
theorem CG.put{X:Nat->Prop}{w a:World}{b o:Nat}(h:CG X w a)(hb:X b)(v:Value):CG X w (a.setCell ⟨b,o,none⟩ v) :=
 ⟨h.os,h.tape,h.output,by simpa using h.size,λq hq=>by
  rw[Al _ _ _ _ (λe=>hq.2 (by rw[e];exact hb))];exact h.block q hq⟩
theorem OJ{d:Nat}{p:PPart}{h:POwner}{ps:List (Cg (d+1))}{k:Nat}(hk:k<ps.length)(hh:EC p h (BS ps k)=true):B1 p h (ps.take (k+1))=CP (B1 p h (ps.take k)) (Dd p (BT (BS ps k))).field:=by
 unfold B1 Ep;rw[Hn hk,Bj,AH,Bs,Bp hh];rfl
theorem QS{d:Nat}{p:PPart}{h:POwner}{ps:List (Cg (d+1))}{k:Nat}(hk:k<ps.length)(hh:EC p h (BS ps k)=false):B1 p h (ps.take (k+1))=B1 p h (ps.take k):=by
 unfold B1 Ep;rw[Hn hk,Bj,AH,Bs,Bo (by rw[hh];decide)];rfl
theorem Km{d:Nat}(p:PPart)(h:POwner)(ps:List (Cg (d+1))):(B1 p h ps).length<=ps.length:=by
 unfold B1;refine Am (Gv _) ?_;rw[A6];exact List.length_filter_le _ _
theorem PG{d:Nat}{p:PPart}{h:POwner}{ps:List (Cg (d+1))}{x:ByteArray}(hx:x∈B1 p h ps):∃k,k∈ps/\(Dd p (BT k)).field=x:=by
 have a:=Fb.1 hx;obtain⟨k,hk,rfl⟩:=List.mem_map.1 a;exact⟨k,(List.mem_filter.1 hk).1,rfl⟩
theorem Lr{Q:Exit->Act->World->Prop}{g po bh bq ac d c1 c2 c3:Nat}{aa a1 a2 a3:Option Addr}{p:PPart}{h:POwner}{ps:List (Cg (d+1))}{sv:Int}{ty hf:ByteArray}{kv:Value}{G C:World}(H:Hid (PtAt G g po p a1 a2 a3 c1 c2 c3))(hos:p.os.length=p.fs.length)(HP:Hid (CB G (d+1) aa ps))(HAsk:Hid (∀j,j<ps.length->¬BX p.fs.length (De p) (BT (BS ps j))<0))(hps:ps.length<=60)(HB:Hid (Below G.heap.size G C))(hbq:G.heap.size<=bq)(hhq:bh≠bq)(HH:Hid (C.heap[bh]? = some (.cells #[.int .i64 h.svc,.string h.type,.string hf] 92 (0,0))))(HQ:Hid (C.heap[bq]? = some (.cells #[.int .i64 sv,.string ty,kv,.slice none 0 0] 68 (0,0)))){v0 v1 v3 v4 v5 v6 v7 v8 v9 v10 v11 v12 v15 v16 v17 v18 v19 v20 v21 v22 v23 v24 v25 v26 v27 v28 v29 v30 v31 v32 v33 v34 v35 v36 v37 v38 v39 v40 v41 v42 v43 v44 v45 v46 v47 v48 v49 v50 v54 v55 v56 v57 v58 v59 v60 v61 v62 v63 v64 v65 v66 v67 v68 v69 v70 v71 v72 v73 v74 v75 v76 v77 v78 v79 v80 v81 v82 v83 v84 v85 v86 v87 v88 v89 v90 v91 v92 v93 v94 v95 v96 v97 v98 v99 v100 v101 v102 v103 v104 v105 v106 v107 v108 v109 Y Z ab ad ae af ag ah ai aj ak al am an ao ap aq ar zzq au av aw ax ay az aA aB aC aD aE aF aG aH aI aJ aK aL aM aN aO aP aQ aR aS aT aU aV aW aX aY aZ a0 a5 a6 a7 a8 a9 ba bb bc bd be bf bg bi bj bl bm bn bp br bs bt bu bv bw bx bz bA bB bC bD bE bF bG bH bI bJ bK bL bM bN bO bP bQ bR bS bT bU bV bW bX bY bZ b0 b1 b2 b3 b4 b5 b6 b7 b8 b9 ca cb cc cd ce cf cg:Value}(ch:Hid (∀(u16 u17 u18 u20 u53 u54 u55 u56 u57 u58 u59 u60 u61 u62 u63 u64 u65 u66 u67 u68 u69 u70 u71 u72 u73 u74 u75 u76 u77 u78 u79 u80 u81 u82 u83 u84 u85 u86 u87 u88 u89 u90 u91 u92 u93 u94 u95 u96 u97 u98 u99 u100 u101 u102 u103 u104 u105 u106 u107 u108 u109:Value) (w':World) (fa:Option Addr) (fc:Nat),CG (λq=>q=bq) C w'->w'.heap[bq]? = some (.cells #[.int .i64 sv,.string ty,kv,.slice fa (B1 p h ps).length fc] 68 (0,0))->Df w' C.heap.size (.slice fa (B1 p h ps).length fc) (B1 p h ps)->(∀x,x∈B1 p h ps->BY x)->Q .normal ⟨#[v0,v1,.pointer (some ⟨g,po,none⟩),v3,v4,v5,v6,v7,v8,v9,v10,v11,v12,.pointer (some ⟨bh,0,none⟩),.pointer (some ⟨bq,0,none⟩),v15,u16,u17,u18,v19,u20,v21,v22,v23,v24,v25,v26,v27,v28,v29,v30,v31,v32,v33,v34,v35,v36,v37,v38,v39,v40,v41,v42,v43,v44,v45,v46,v47,v48,v49,v50,.slice aa ps.length ac,.int .i64 (ps.length:Int),u53,u54,u55,u56,u57,u58,u59,u60,u61,u62,u63,u64,u65,u66,u67,u68,u69,u70,u71,u72,u73,u74,u75,u76,u77,u78,u79,u80,u81,u82,u83,u84,u85,u86,u87,u88,u89,u90,u91,u92,u93,u94,u95,u96,u97,u98,u99,u100,u101,u102,u103,u104,u105,u106,u107,u108,u109,Y,Z,ab,ad,ae,af,ag,ah,ai,aj,ak,al,am,an,ao,ap,aq,ar,zzq,au,av,aw,ax,ay,az,aA,aB,aC,aD,aE,aF,aG,aH,aI,aJ,aK,aL,aM,aN,aO,aP,aQ,aR,aS,aT,aU,aV,aW,aX,aY,aZ,a0,a5,a6,a7,a8,a9,ba,bb,bc,bd,be,bf,bg,bi,bj,bl,bm,bn,bp,br,bs,bt,bu,bv,bw,bx,bz,bA,bB,bC,bD,bE,bF,bG,bH,bI,bJ,bK,bL,bM,bN,bO,bP,bQ,bR,bS,bT,bU,bV,bW,bX,bY,bZ,b0,b1,b2,b3,b4,b5,b6,b7,b8,b9,ca,cb,cc,cd,ce,cf,cg],[]⟩ w')) :
  Code.wp Tryz.prog (GA Tryz.f24 (DW 2)) Q ⟨#[v0,v1,.pointer (some ⟨g,po,none⟩),v3,v4,v5,v6,v7,v8,v9,v10,v11,v12,.pointer (some ⟨bh,0,none⟩),.pointer (some ⟨bq,0,none⟩),v15,v16,v17,v18,v19,v20,v21,v22,v23,v24,v25,v26,v27,v28,v29,v30,v31,v32,v33,v34,v35,v36,v37,v38,v39,v40,v41,v42,v43,v44,v45,v46,v47,v48,v49,v50,.slice aa ps.length ac,.int .i64 (ps.length:Int),.int .i64 0,v54,v55,v56,v57,v58,v59,v60,v61,v62,v63,v64,v65,v66,v67,v68,v69,v70,v71,v72,v73,v74,v75,v76,v77,v78,v79,v80,v81,v82,v83,v84,v85,v86,v87,v88,v89,v90,v91,v92,v93,v94,v95,v96,v97,v98,v99,v100,v101,v102,v103,v104,v105,v106,v107,v108,v109,Y,Z,ab,ad,ae,af,ag,ah,ai,aj,ak,al,am,an,ao,ap,aq,ar,zzq,au,av,aw,ax,ay,az,aA,aB,aC,aD,aE,aF,aG,aH,aI,aJ,aK,aL,aM,aN,aO,aP,aQ,aR,aS,aT,aU,aV,aW,aX,aY,aZ,a0,a5,a6,a7,a8,a9,ba,bb,bc,bd,be,bf,bg,bi,bj,bl,bm,bn,bp,br,bs,bt,bu,bv,bw,bx,bz,bA,bB,bC,bD,bE,bF,bG,bH,bI,bJ,bK,bL,bM,bN,bO,bP,bQ,bR,bS,bT,bU,bV,bW,bX,bY,bZ,b0,b1,b2,b3,b4,b5,b6,b7,b8,b9,ca,cb,cc,cd,ce,cf,cg],[]⟩ C:=by
 refine Iu ?_
 conv=>arg 2;whnf
 dsimp only;obtain⟨i0,hi0,hz0,hz1,hz2⟩:=Cd Tryz.info9;obtain⟨F,hF⟩:∃F:Nat->List ByteArray,F=λk=>B1 p h (ps.take k):=⟨_,rfl⟩;have HFY:Hid (∀k,k<ps.length->EC p h (BS ps k)=true->F (k+1)=CP (F k) (Dd p (BT (BS ps k))).field):=Aa λk hk hh=>by rw[hF];exact OJ hk hh
 have cm:Hid (∀k,k<ps.length->EC p h (BS ps k)=false->F (k+1)=F k):=Aa λk hk hh=>by rw[hF];exact QS hk hh
 have hFn:F ps.length=B1 p h ps:=by rw[hF];dsimp only;rw[Br]
 have HF0:Hid (F 0 = []):=Aa (by rw[hF];rfl);have HLF:Hid (∀k,(F k).length<=60):=Aa λk=>by
  rw[hF];have h1:=Km p h (ps.take k);rw[Bb]at h1;show (B1 p h (ps.take k)).length<=60;omega
 have HIX:Hid (∀j,j<ps.length->∃a:Nat,BX p.fs.length (De p) (BT (BS ps j))=(a:Int)/\a<p.os.length/\Dd p (BT (BS ps j))=D1 p a):=Aa λj hj=>by
  have hf:=HAsk.out j hj;obtain⟨a,D⟩:∃a:Nat,BX p.fs.length (De p) (BT (BS ps j))=(a:Int):=⟨(BX p.fs.length (De p) (BT (BS ps j))).toNat,by omega⟩;refine⟨a,D,?_,?_⟩
  ·have h1:=(E4 (p:=λq=>eqs (De p q).name (BT (BS ps j))) hf).1
   have h2:Ds p.fs.length (λq=>eqs (De p q).name (BT (BS ps j)))=(a:Int):=D;rw[h2]at h1;rw[hos];simpa using h1
  ·unfold Dd;rw[D,Ax]
 have HSF:Hid (∀k x,x∈F k->BY x):=Aa λk x hx=>by
  rw[hF]at hx;obtain⟨q,hq,rfl⟩:=PG hx;obtain⟨j,hj,rfl⟩:=List.mem_iff_getElem.1 (List.mem_of_mem_take hq);rw[<-CL hj];obtain⟨a,-,R,e⟩:=HIX.out j hj;rw[e];obtain⟨_,_,_,_,_,_,hgo⟩:=H.out.owners.2 a R;exact hgo.2.1
 rw[<-hFn]at ch;clear hF hFn;have hps':ps.length<=9223372036854775807:=by omega
 go_wp2_with fail
 go_loopw [53] (λi wr => ∃(k:Nat) (fa:Option Addr) (fc:Nat),k<=ps.length/\i= .int .i64 k/\CG (λq=>q=bq) C wr/\wr.heap[bq]? = some (.cells #[.int .i64 sv,.string ty,kv,.slice fa (F k).length fc] 68 (0,0))/\Df wr C.heap.size (.slice fa (F k).length fc) (F k)) (λi _=>ps.length - (intOf i).toNat)
 case atStart=>exact⟨0,none,0,Ai _,rfl,CG.refl _ _,by rw[HF0.out];exact HQ.out,by rw[HF0.out];exact Df.nil _ _⟩
 case round =>
  obtain⟨k,fa,fc,hk,rfl,I,J,hT⟩:=hrel
  by_cases s:k<ps.length
  ·have E:Below G.heap.size G wr:=CG.low HB.out I hbq
   obtain⟨b,o,A,C9,hab,q0,q1,q2,hC9,s0,s1,-⟩:=HP.out.2 k s;subst hab;have q0:=BR E q0;have q1:=BR E q1;have q2:=BR E q2;have hlt':(k:Int)<(ps.length:Int):=by omega
   have hk0:(0:Int)<=(k:Int):=by omega
   obtain⟨a,D,R,eo⟩:=HIX.out k s;obtain⟨ob,oo,hoa,o0,o1,o2,-⟩:=H.out.owners.2 a R;subst hoa;generalize hX:wr.alloc (Obj.cells #[.string (Di (BS ps k)),.string (BT (BS ps k)),.slice A (subs (BS ps k)).length C9] 72)=X1;have K:Below wr.heap.size wr X1:=by rw[<-hX];exact BW _ _
   have HBK:Hid (X1.heap[wr.heap.size]? = some (.cells #[.string (Di (BS ps k)),.string (BT (BS ps k)),.slice A (subs (BS ps k)).length C9] 72 (0,0))):=Aa (by rw[<-hX];exact Ap _ _);have n:Hid (Below G.heap.size G X1):=Aa (E.trans (K.mono E.size));have HFI:=Aa D;have HO:Hid (G.cell? ⟨ob,oo+a*3,none⟩=some (.int .i64 (D1 p a).svc)/\G.cell? ⟨ob,oo+a*3+1,none⟩=some (.string (D1 p a).type)/\G.cell? ⟨ob,oo+a*3+2,none⟩=some (.string (D1 p a).field)):=Aa ⟨o0,o1,o2⟩;have ci:=Aa (CG.kept (X:=λq=>q=bq) I K);have L:=Aa ((K.block _ (Ag J)).trans J);have HT1:=Aa (hT.kept K);have cn:=Aa eo;clear E D o0 o1 o2 I J hT K eo s0 s1 hC9
   go_upto_region 9 with fail
   clear hX q0 q1 q2;refine Tq (g:=g) (o:=po) (bk:=wr.heap.size) (i:=a) (pf:=BT (BS ps k)) (by kernel_rfl) rfl rfl R (BR n.out H.out.c1) (BR n.out H.out.c2) (by simp[World.cell?,HBK.out]) (BR n.out HO.out.1) (BR n.out HO.out.2.1) (BR n.out HO.out.2.2) (λw1 h1=>?_) ?_
   ·have:=Gs a1 p.fs.length c1 (De p) (BT (BS ps k)) w1 (H.out.fields.kept (n.out.trans (h1.mono n.out.size)))
    rw[HFI.out]at this;exact this
   intro w r bo S cj hbo hBO;have c:=Aa (ci.out.kept S);have m:=Aa ((S.block _ (Ag L.out)).trans L.out);have co:=HT1.out.kept S;have HBO:=Aa hBO;have cp:=c.out.block _ ⟨Ag HH.out,hhq⟩;rw[HH.out]at cp;obtain⟨ho0,ho1⟩:r.cell? ⟨bh,0,none⟩=some (.int .i64 h.svc)/\r.cell? ⟨bh,1,none⟩=some (.string h.type):=by simp[World.cell?,cp]
   obtain⟨bo0,bo1,T⟩:r.cell? ⟨bo,0,none⟩=some (.int .i64 (D1 p a).svc)/\r.cell? ⟨bo,1,none⟩=some (.string (D1 p a).type)/\r.cell? ⟨bo,2,none⟩=some (.string (D1 p a).field):=by simp[World.cell?,HBO.out]
   obtain⟨cq,U⟩:r.cell? ⟨bq,3,none⟩=some (.slice fa (F k).length fc)/\r.frozen? ⟨bq,3,none⟩=false:=by simp[World.cell?,World.frozen?,m.out]
   have M:Hid (r.cell? ⟨bo,2,none⟩=some (.string (D1 p a).field)):=Aa T;obtain⟨fa',fc',hac,-,hTx⟩:=co.at (by have:=HLF.out k;unfold maxLen;omega) (HSF.out k);cases hac;have N:=Aa hTx;have V:=Aa co;have hFl:=HLF.out k;have hC2:C.heap.size<=r.heap.size:=c.out.size;clear S hBO co hTx cp HBK n HFI HO ci L HT1 hbo;simp only[Cn,Act.put,Au,AD,AE,cj];generalize w 57=t57;generalize w 58=t58;generalize w 59=t59;generalize w 60=t60;generalize w 61=t61;generalize w 62=t62;generalize w 63=t63;generalize w 64=t64;generalize w 65=t65;generalize w 66=t66;generalize w 67=t67;generalize w 68=t68;generalize w 69=t69;generalize w 70=t70;clear cj
   go_upto_block 4 with fail
   refine PA (l:=F k) (x:=(D1 p a).field) (bo:=bo) N M (Aa ?_);intro u20 u74 u75 u76 u77 u78 u79 u80 u81 u82 u83 u84 u85;rw[Bool.false_or];rename_i Kx hKx;refine hKx _ _ ?_;clear hKx;have v:Hid (EC p h (BS ps k)=(decide ((D1 p a).svc=h.svc)&&eqs (D1 p a).type h.type)):=Aa (by unfold EC;rw[cn.out])
   cases hh:(F k).any (λy=>eqs y (D1 p a).field) with
   |true =>
    have P:Hid (F (k+1)=F k):=Aa (by
     cases hof:EC p h (BS ps k) with
     |true=>rw[HFY.out k s hof,cn.out,KJ hh]
     |false=>exact cm.out k s hof)
    clear hh v M N T U cq
    go_wp2_with fail
    go_roundw
    case rel=>exact⟨k+1,fa,fc,by omega,by go_num,c.out,by rw[P.out];exact m.out,by rw[P.out];exact V.out⟩
    case measure=>simp[intOf];omega
   |false =>
    by_cases e1:(D1 p a).svc=h.svc
    case neg =>
     have P:Hid (F (k+1)=F k):=Aa (cm.out k s (by rw[v.out,AY e1];rfl));have e1':((D1 p a).svc==h.svc)=false:=by simpa using e1
     clear hh v M N T U cq
     go_wp2_with fail
     go_roundw
     case rel=>exact⟨k+1,fa,fc,by omega,by go_num,c.out,by rw[P.out];exact m.out,by rw[P.out];exact V.out⟩
     case measure=>simp[intOf];omega
    have e1':((D1 p a).svc==h.svc)=true:=by simpa using e1
    cases e2:eqs (D1 p a).type h.type with
    |false =>
     have P:Hid (F (k+1)=F k):=Aa (cm.out k s (by rw[v.out,e2,Bool.and_false]));have e2':((D1 p a).type.toList==h.type.toList)=false:=by rw[CT];exact e2
     clear hh v M N T U cq e1 e2
     go_wp2_with fail
     go_roundw
     case rel=>exact⟨k+1,fa,fc,by omega,by go_num,c.out,by rw[P.out];exact m.out,by rw[P.out];exact V.out⟩
     case measure=>simp[intOf];omega
    |true =>
     have P:Hid (F (k+1)=F k++[(D1 p a).field]):=Aa (by rw[HFY.out k s (by rw[v.out,e2,Bi e1];rfl),cn.out,J6 hh]);have e2':((D1 p a).type.toList==h.type.toList)=true:=by rw[CT];exact e2
     have W:=Aa (V.out.kept (BW r (Obj.cells #[.string (D1 p a).field] 9)));have hb1:C.heap.size<=(r.alloc (Obj.cells #[.string (D1 p a).field] 9)).heap.size:=Am hC2 (BW r _).size;have z:=Aa (((BW r (Obj.cells #[.string (D1 p a).field] 9)).block _ (Ag m.out)).trans m.out);have ck:=Aa (c.out.kept (BW r (Obj.cells #[.string (D1 p a).field] 9)));clear hh v M N e1 e2 U
     go_wp2_with (at_builtin;refine Ck _ rfl _ _ 65 rfl C.heap.size 9 i0 _ 1 16 Tryz.underlying65 hi0 hz0 hz1 hz2 rfl (by decide) _ (F k).length _ rfl W.out (some ⟨r.heap.size,0,none⟩) 1 1 [.string (D1 p a).field] rfl rfl (CI r #[.string (D1 p a).field] _) (λh=>by cases h) (by intro u hu;simp at hu;rcases hu with rfl;rfl) (by unfold maxLen;omega) (by omega) hb1 ?_)
     intro v' w' cl hg _;have O:=Df.app (l:=F k) (x:=(D1 p a).field) (by rw[Bk];exact cl);rw[<-P.out]at O;obtain⟨a4,c4,hv4,-⟩:=O.slice;subst hv4;have B:w'.heap[bq]? = some (.cells #[.int .i64 sv,.string ty,kv,.slice fa (F k).length fc] 68 (0,0)):=by
      refine(hg.block _ (Ag z.out) (λe=>?_)).trans z.out;obtain⟨cs',ho⟩:=B9.obj W.out e.symm;rw[z.out]at ho;cases ho
     obtain⟨cq4,zq4⟩:w'.cell? ⟨bq,3,none⟩=some (.slice fa (F k).length fc)/\w'.frozen? ⟨bq,3,none⟩=false:=by simp[World.cell?,World.frozen?,B]
     have HKX4:Hid (CG (λq=>q=bq) C (w'.setCell ⟨bq,3,none⟩ (.slice a4 (F (k+1)).length c4))):=Aa ((ck.out.grown hg (λq hq=>(B9.lt W.out hq).1)).put rfl _);have HBQ4:Hid ((w'.setCell ⟨bq,3,none⟩ (.slice a4 (F (k+1)).length c4)).heap[bq]? = some (.cells #[.int .i64 sv,.string ty,kv,.slice a4 (F (k+1)).length c4] 68 (0,0))):=Aa (Ao _ bq 3 _ 68 _ B);have HT4:Hid (Df (w'.setCell ⟨bq,3,none⟩ (.slice a4 (F (k+1)).length c4)) C.heap.size (.slice a4 (F (k+1)).length c4) (F (k+1))):=Aa (B9.set_other O (p:=⟨bq,3,none⟩) (λe=>by
      obtain⟨cs',ho⟩:=B9.obj O e;rw[B]at ho;cases ho) _)
     clear cl hg O B W hb1 z ck
     go_wp2_with fail
     go_roundw
     case rel=>exact⟨k+1,a4,c4,by omega,by go_num,HKX4.out,HBQ4.out,HT4.out⟩
     case measure=>simp[intOf];omega
  ·have hkn:k=ps.length:=by omega
   subst hkn;have HK9:=Aa I;have HB9:=Aa J;have HT9:=Aa hT;clear I J hT
   go_wp2_with fail
   exact ch.out _ _ _ _ _ _ _ _ _ _ _ _ _ _ _ _ _ _ _ _ _ _ _ _ _ _ _ _ _ _ _ _ _ _ _ _ _ _ _ _ _ _ _ _ _ _ _ _ _ _ _ _ _ _ _ _ _ _ _ _ _ _ fa fc HK9.out HB9.out HT9.out (HSF.out _)
theorem O6{d:Nat}{p:PPart}{keys:List ByteArray}{ps:List (Cg (d+1))}{k:Nat}(hk:k<p.hs.length):(p.hs.take (k+1)).map (CW p keys ps)=(p.hs.take k).map (CW p keys ps)++[CW p keys ps (Eg p k)]:=by
 have e:p.hs[k]=Eg p k:=by simp[Eg,List.getD,hk]
 rw[AS hk,AH,e];rfl
theorem N8{Q:Exit->Act->World->Prop}{g po ac d c1 c2 c3 kc:Nat}{aa a1 a2 a3 ka:Option Addr}{p:PPart}{keys:List ByteArray}{ps:List (Cg (d+1))}{Y:Nat->Prop}{a:World}(HPT:Hid (PtAt a g po p a1 a2 a3 c1 c2 c3))(hos:p.os.length=p.fs.length)(HP:Hid (CB a (d+1) aa ps))(HAsk:Hid (∀j,j<ps.length->¬BX p.fs.length (De p) (BT (BS ps j))<0))(hps:ps.length<=60)(hhs:p.hs.length<=5)(HY:Hid (∀q,Y q->q<a.heap.size))(HK:Hid (EA Y a (λw=>DX w ka keys)))(hkc:keys.length<=kc){v0 v1 v5 v6 v7 v8 v9 v10 v12 v13 v14 v15 v16 v17 v18 v19 v20 v21 v22 v23 v24 v25 v26 v27 v28 v29 v30 v31 v32 v33 v34 v35 v36 v37 v38 v42 v43 v44 v45 v46 v47 v48 v49 v50 v51 v52 v53 v54 v55 v56 v57 v58 v59 v60 v61 v62 v63 v64 v65 v66 v67 v68 v69 v70 v71 v72 v73 v74 v75 v76 v77 v78 v79 v80 v81 v82 v83 v84 v85 v86 v87 v88 v89 v90 v91 v92 v93 v94 v95 v96 v97 v98 v99 v100 v101 v102 v103 v104 v105 v106 v107 v108 v109 v110 v111 v112 v113 v114 l m n o r s x y z A B C D E F G H I J K L M N O P R T U V W X Z ab ae af ag ah ai aj ak al am an ao ap aq ar zzq au av aw ax ay az aA aB aC aD aE aF aG aH aI aJ aK aL aM aN aO aP aQ aR aS aT aU aV aW aX aY aZ a0 a4 a5 a6 a7 a8 a9 ba bb bc bd be bf bg bh bi bj bk bl bm bn bo bp bq br bs bt bu bv bw bx bz bA bB bC bD:Value}(HEND:Hid (∀(u13 u14 u16 u17 u18 u20 u41 u42 u43 u44 u45 u46 u47 u48 u49 u50 u51 u52 u53 u54 u55 u56 u57 u58 u59 u60 u61 u62 u63 u64 u65 u66 u67 u68 u69 u70 u71 u72 u73 u74 u75 u76 u77 u78 u79 u80 u81 u82 u83 u84 u85 u86 u87 u88 u89 u90 u91 u92 u93 u94 u95 u96 u97 u98 u99 bE bF bG bH bI bJ bK bL bM bN u110 u111 u112 u113 u114:Value) (w':World) (vq:Value) (kv fv:Nat->Value),QRow a.heap.size Y w' vq (p.hs.map (CW p keys ps)) kv fv->Below a.heap.size a w'->Q .normal ⟨#[v0,v1,.pointer (some ⟨g,po,none⟩),.slice ka keys.length kc,.slice aa ps.length ac,v5,v6,v7,v8,v9,v10,vq,v12,u13,u14,v15,u16,u17,u18,v19,u20,v21,v22,v23,v24,v25,v26,v27,v28,v29,v30,v31,v32,v33,v34,v35,v36,v37,v38,.slice a3 p.hs.length c3,.int .i64 (p.hs.length:Int),u41,u42,u43,u44,u45,u46,u47,u48,u49,u50,u51,u52,u53,u54,u55,u56,u57,u58,u59,u60,u61,u62,u63,u64,u65,u66,u67,u68,u69,u70,u71,u72,u73,u74,u75,u76,u77,u78,u79,u80,u81,u82,u83,u84,u85,u86,u87,u88,u89,u90,u91,u92,u93,u94,u95,u96,u97,u98,u99,bE,bF,bG,bH,bI,bJ,bK,bL,bM,bN,u110,u111,u112,u113,u114,l,m,n,o,r,s,x,y,z,A,B,C,D,E,F,G,H,I,J,K,L,M,N,O,P,R,T,U,V,W,X,Z,ab,ae,af,ag,ah,ai,aj,ak,al,am,an,ao,ap,aq,ar,zzq,au,av,aw,ax,ay,az,aA,aB,aC,aD,aE,aF,aG,aH,aI,aJ,aK,aL,aM,aN,aO,aP,aQ,aR,aS,aT,aU,aV,aW,aX,aY,aZ,a0,a4,a5,a6,a7,a8,a9,ba,bb,bc,bd,be,bf,bg,bh,bi,bj,bk,bl,bm,bn,bo,bp,bq,br,bs,bt,bu,bv,bw,bx,bz,bA,bB,bC,bD],[]⟩ w')) :
  Code.wp Tryz.prog (GA Tryz.f24 (DW 0)) Q ⟨#[v0,v1,.pointer (some ⟨g,po,none⟩),.slice ka keys.length kc,.slice aa ps.length ac,v5,v6,v7,v8,v9,v10,.slice none 0 0,v12,v13,v14,v15,v16,v17,v18,v19,v20,v21,v22,v23,v24,v25,v26,v27,v28,v29,v30,v31,v32,v33,v34,v35,v36,v37,v38,.slice a3 p.hs.length c3,.int .i64 (p.hs.length:Int),.int .i64 0,v42,v43,v44,v45,v46,v47,v48,v49,v50,v51,v52,v53,v54,v55,v56,v57,v58,v59,v60,v61,v62,v63,v64,v65,v66,v67,v68,v69,v70,v71,v72,v73,v74,v75,v76,v77,v78,v79,v80,v81,v82,v83,v84,v85,v86,v87,v88,v89,v90,v91,v92,v93,v94,v95,v96,v97,v98,v99,v100,v101,v102,v103,v104,v105,v106,v107,v108,v109,v110,v111,v112,v113,v114,l,m,n,o,r,s,x,y,z,A,B,C,D,E,F,G,H,I,J,K,L,M,N,O,P,R,T,U,V,W,X,Z,ab,ae,af,ag,ah,ai,aj,ak,al,am,an,ao,ap,aq,ar,zzq,au,av,aw,ax,ay,az,aA,aB,aC,aD,aE,aF,aG,aH,aI,aJ,aK,aL,aM,aN,aO,aP,aQ,aR,aS,aT,aU,aV,aW,aX,aY,aZ,a0,a4,a5,a6,a7,a8,a9,ba,bb,bc,bd,be,bf,bg,bh,bi,bj,bk,bl,bm,bn,bo,bp,bq,br,bs,bt,bu,bv,bw,bx,bz,bA,bB,bC,bD],[]⟩ a:=by
 refine Iu ?_
 conv=>arg 2;whnf
 dsimp only;obtain⟨i0,hi0,hz0,hz1,hz2⟩:=Cd Tryz.info68;have hkl:keys.length<=9223372036854775807:=HK.out.at.1
 go_wp2_with fail
 go_loopw [11,41] (λv i wr => ∃(k:Nat) (kv fv:Nat->Value),k<=p.hs.length/\i= .int .i64 k/\QRow a.heap.size Y wr v ((p.hs.take k).map (CW p keys ps)) kv fv/\Below a.heap.size a wr) (λ_ i _=>p.hs.length - (intOf i).toNat)
 case atStart=>exact⟨0,λ_=>undef,λ_=>undef,Ai _,rfl,QRow.nil _ _ _ _ _,Aq _ _⟩
 case round =>
  obtain⟨k,kv,fv,hk,rfl,hQ,hw⟩:=hrel
  by_cases hlt:k<p.hs.length
  ·obtain⟨hb,ho,hha,h0,h1,h2,-⟩:=HPT.out.homes.2 k hlt
   subst hha;have h0:=BR hw h0;have h1:=BR hw h1;have h2:=BR hw h2;have hlt':(k:Int)<(p.hs.length:Int):=by omega
   have hk0:(0:Int)<=(k:Int):=by omega
   obtain⟨S,e⟩:∃S,S=(p.hs.take k).map (CW p keys ps):=⟨_,rfl⟩;have HNX:Hid ((p.hs.take (k+1)).map (CW p keys ps)=S++[CW p keys ps (Eg p k)]):=Aa (by rw[e];exact O6 hlt);have hln:S.length<=5:=by rw[e,A6,Bb];omega
   rw[<-e]at hQ;clear e;obtain⟨va,vc,hva,-⟩:=hQ.slice;subst hva;have HQ:=Aa hQ;have HW:=Aa hw;have hNr:a.heap.size<=wr.heap.size:=hw.size;clear hQ hw
   go_upto_block 2 with fail
   generalize hX:(wr.alloc (Obj.cells #[.int .i64 (Eg p k).svc,.string (Eg p k).type,.string (Eg p k).field] 92)).alloc (Obj.cells #[.int .i64 (Eg p k).svc,.string (Eg p k).type,.slice ka keys.length kc,.slice none 0 0] 68)=X2;have hBX:Below wr.heap.size wr X2:=by rw[<-hX];exact CN _ _ _
   have HH:Hid (X2.heap[wr.heap.size]? = some (.cells #[.int .i64 (Eg p k).svc,.string (Eg p k).type,.string (Eg p k).field] 92 (0,0))):=Aa (by rw[<-hX];exact(A5 _ _ _ (by simp)).trans (Ap _ _));have HQB:Hid (X2.heap[wr.heap.size+1]? = some (.cells #[.int .i64 (Eg p k).svc,.string (Eg p k).type,.slice ka keys.length kc,.slice none 0 0] 68 (0,0))):=Aa (by
    rw[<-hX];exact(show wr.heap.size+1=(wr.alloc (Obj.cells #[.int .i64 (Eg p k).svc,.string (Eg p k).type,.string (Eg p k).field] 92)).heap.size by simp) ▸ Ap _ _)
   have HBX:=Aa hBX;have HWX:Hid (Below a.heap.size a X2):=Aa (HW.out.trans (hBX.mono hNr));clear hX hBX h0 h1 h2;refine Lr (h:=Eg p k) (hf:=(Eg p k).field) (sv:=(Eg p k).svc) (ty:=(Eg p k).type) (kv:=.slice ka keys.length kc) HPT hos HP (Aa λj hj=>by have:=HAsk.out j hj;omega) hps HWX (by omega) (by omega) HH HQB (Aa ?_);intro u16 u17 u18 u20 u53 u54 u55 u56 u57 u58 u59 u60 u61 u62 u63 u64 u65 u66 u67 u68 u69 u70 u71 u72 u73 u74 u75 u76 u77 u78 u79 u80 u81 u82 u83 u84 u85 u86 u87 u88 u89 u90 u91 u92 u93 u94 u95 u96 u97 u98 u99 bE bF bG bH bI bJ bK bL bM bN b fa fc hkx hbq hT hSm;have c:Below a.heap.size a b:=CG.low HWX.out hkx (by omega);have hrow:∀q,(Value.slice va S.length vc).ownBlock=some q->q<wr.heap.size:=λq hq=>(HQ.out.row.lt hq).2;have hQ3:=HQ.out.kept (CG.low HBX.out hkx (by omega));obtain⟨fa',fc',hac,hfc,hTx⟩:=hT.at (by have:=Km p (Eg p k) ps;unfold maxLen;omega) hSm;cases hac;have hXs:wr.heap.size+1<X2.heap.size:=Ag HQB.out;have hTl:∀q,(Value.slice fa (B1 p (Eg p k) ps).length fc).ownBlock=some q->X2.heap.size<=q:=λq hq=>(B9.lt hT hq).1;have hRV:ReqV (λq=>Y q\/(Value.slice va S.length vc).ownBlock=some q) b (CW p keys ps (Eg p k)) ka kc fa fc:=by
    refine⟨hkc,hfc,?_,?_⟩
    ·refine HK.out.step c.size (λq hq _=>c.block q hq) (λq hq hx=>?_)
     rcases hx with hx|hx
     ·exact hx
     ·have:=(HQ.out.row.lt hx).1;omega
    ·refine hTx.free λad had hx=>?_
     have hq:(Value.slice fa (B1 p (Eg p k) ps).length fc).ownBlock=some ad.block:=by rw[had];rfl
     have h9:=hTl _ hq;rcases hx with hx|hx
     ·have:=HY.out _ hx;omega
     ·have:=hrow _ hx;omega
   obtain⟨cq0,cq1,cq2,cq3⟩:b.cell? ⟨wr.heap.size+1,0,none⟩=some (.int .i64 (Eg p k).svc)/\b.cell? ⟨wr.heap.size+1,1,none⟩=some (.string (Eg p k).type)/\b.cell? ⟨wr.heap.size+1,2,none⟩=some (.slice ka keys.length kc)/\b.cell? ⟨wr.heap.size+1,3,none⟩=some (.slice fa (B1 p (Eg p k) ps).length fc):=by simp[World.cell?,hbq]
   have HRV:=Aa (hRV.kept (BW b (Obj.cells #[.int .i64 (Eg p k).svc,.string (Eg p k).type,.slice ka keys.length kc,.slice fa (B1 p (Eg p k) ps).length fc] 68)));have HQ3:=Aa (hQ3.kept (BW b (Obj.cells #[.int .i64 (Eg p k).svc,.string (Eg p k).type,.slice ka keys.length kc,.slice fa (B1 p (Eg p k) ps).length fc] 68)));have HR3:=Aa HQ3.out.row;have HW3:Hid (Below a.heap.size a (b.alloc (Obj.cells #[.int .i64 (Eg p k).svc,.string (Eg p k).type,.slice ka keys.length kc,.slice fa (B1 p (Eg p k) ps).length fc] 68))):=Aa (c.trans ((BW b _).mono c.size));have hN3:a.heap.size<=(b.alloc (Obj.cells #[.int .i64 (Eg p k).svc,.string (Eg p k).type,.slice ka keys.length kc,.slice fa (B1 p (Eg p k) ps).length fc] 68)).heap.size:=HW3.out.size;clear hkx hbq hT hSm c hQ3 hTx hTl hRV hrow HQ HH HQB HBX HWX;rename_i Kx hKx;refine hKx _ _ ?_;clear hKx
   go_wp2_with (at_builtin;refine Ck _ rfl _ _ 32 rfl a.heap.size 68 i0 _ 4 72 Tryz.underlying32 hi0 hz0 hz1 hz2 rfl (by decide) _ S.length _ rfl HR3.out (some ⟨b.heap.size,0,none⟩) 1 1 [.int .i64 (Eg p k).svc,.string (Eg p k).type,.slice ka keys.length kc,.slice fa (B1 p (Eg p k) ps).length fc] rfl rfl (CI b #[.int .i64 (Eg p k).svc,.string (Eg p k).type,.slice ka keys.length kc,.slice fa (B1 p (Eg p k) ps).length fc] _) (λh=>by cases h) (by intro u hu;simp at hu;rcases hu with rfl|rfl|rfl|rfl<;>rfl) (by unfold maxLen;omega) (by omega) hN3 ?_)
   intro v' w' hown hg hv';obtain⟨kv',fv',hQ4⟩:=HQ3.out.app HRV.out hown hg (by simpa using hv');rw[<-HNX.out]at hQ4;have HQ4:=Aa hQ4;have HW4:Hid (Below a.heap.size a w'):=Aa (HW3.out.grown hg hN3 (λq hq=>(HR3.out.lt hq).1));clear hown hg hv' hQ4 HQ3 HR3 HRV HW3 hN3 cq0 cq1 cq2 cq3
   go_wp2_with fail
   go_roundw
   case rel=>exact⟨k+1,kv',fv',by omega,by go_num,HQ4.out,HW4.out⟩
   case measure=>simp[intOf];omega
  ·have hkn:k=p.hs.length:=by omega
   subst hkn;rw[Br]at hQ;have HQ9:=Aa hQ;have HW9:=Aa hw;clear hQ hw
   go_wp2_with fail
   exact HEND.out _ _ _ _ _ _ _ _ _ _ _ _ _ _ _ _ _ _ _ _ _ _ _ _ _ _ _ _ _ _ _ _ _ _ _ _ _ _ _ _ _ _ _ _ _ _ _ _ _ _ _ _ _ _ _ _ _ _ _ _ _ _ _ _ _ _ _ _ _ _ _ _ _ _ _ _ _ _ _ _ _ _ _ _ HQ9.out HW9.out
end Go.Proofs.YtjjggefmmeminabGreat
