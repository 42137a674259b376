import Derived.Test.YtjjggefmmeminabGreatJRm
import Derived.Deep.CutBlock
set_option maxRecDepth 100000
set_option maxHeartbeats 80000000
namespace Go.Proofs.YtjjggefmmeminabGreat
open Go.RowKit Go.Sort Go.PlainAid
theorem Ml{Q:Exit->Act->World->Prop}{bt qc:Nat}{qa:Option Addr}{nm:ByteArray}{L:List PPart}{Y2:Nat->Prop}{C:World}{rm:Nat->Nat->Value}(HPC:Hid (Parts Y2 C (.slice qa L.length qc) L rm))(t0:C.cell? ⟨bt,0,none⟩=some (.string nm))(hl90:L.length<=90){v0 v1 v2 v3 v4 v6 v7 v8 v9 v10 v11 v12 v15 v16 v17 v18 v19 v20 v21 v22 v23 v24 v25 v26 v27 v28 v29 v30 v31 v32 v33 v34 v35 v36 v37 v38 v39 v40 v41 v42 v43 v44 v45 v46 v47 v48 v49 v50 v51 v52 v53 v54 v55 v56 v57 v58 v59 v60 v61 v62 v63 v64 v65 v66 v67 v68 v69 v70 v71 v72 v73 v74 v75 v76 v77 v78 v79 v80 v81 v82 v83 v84 v85 v86 v87 v88 v89 v90 v91 v92 v93 v94 v95 v96 v97 v98 v99 b d g i j k l m n o r s u v w x y z A B D E F G H I J K M N O P R S T U V W X Y Z aa ab ac ad ae af ag ah ai aj ak al am an ao ap aq ar zzq au av aw ax ay az aA aB aC aD aE aF aG aH aI aJ aK aL:Value}(HEND:Hid (∀(u52 u53 u54 u55 u56 u57 u58 u59 u60 u61 u62 u63 u64 u65 u66 u67 u68:Value) (w':World),Below C.heap.size C w'->Q .normal ⟨#[v0,v1,v2,v3,v4,.slice qa L.length qc,v6,v7,v8,v9,v10,v11,v12,.pointer (some ⟨bt,0,none⟩),.int .i64 (pos L nm:Int),v15,v16,v17,v18,v19,v20,v21,v22,v23,v24,v25,v26,v27,v28,v29,v30,v31,v32,v33,v34,v35,v36,v37,v38,v39,v40,v41,v42,v43,v44,v45,v46,v47,v48,v49,v50,v51,u52,u53,u54,u55,u56,u57,u58,u59,u60,u61,u62,u63,u64,u65,u66,u67,u68,v69,v70,v71,v72,v73,v74,v75,v76,v77,v78,v79,v80,v81,v82,v83,v84,v85,v86,v87,v88,v89,v90,v91,v92,v93,v94,v95,v96,v97,v98,v99,b,d,g,i,j,k,l,m,n,o,r,s,u,v,w,x,y,z,A,B,D,E,F,G,H,I,J,K,M,N,O,P,R,S,T,U,V,W,X,Y,Z,aa,ab,ac,ad,ae,af,ag,ah,ai,aj,ak,al,am,an,ao,ap,aq,ar,zzq,au,av,aw,ax,ay,az,aA,aB,aC,aD,aE,aF,aG,aH,aI,aJ,aK,aL],[]⟩ w')) :
  Code.wp Tryz.prog (KI 4) Q ⟨#[v0,v1,v2,v3,v4,.slice qa L.length qc,v6,v7,v8,v9,v10,v11,v12,.pointer (some ⟨bt,0,none⟩),.int .i64 0,v15,v16,v17,v18,v19,v20,v21,v22,v23,v24,v25,v26,v27,v28,v29,v30,v31,v32,v33,v34,v35,v36,v37,v38,v39,v40,v41,v42,v43,v44,v45,v46,v47,v48,v49,v50,v51,v52,v53,v54,v55,v56,v57,v58,v59,v60,v61,v62,v63,v64,v65,v66,v67,v68,v69,v70,v71,v72,v73,v74,v75,v76,v77,v78,v79,v80,v81,v82,v83,v84,v85,v86,v87,v88,v89,v90,v91,v92,v93,v94,v95,v96,v97,v98,v99,b,d,g,i,j,k,l,m,n,o,r,s,u,v,w,x,y,z,A,B,D,E,F,G,H,I,J,K,M,N,O,P,R,S,T,U,V,W,X,Y,Z,aa,ab,ac,ad,ae,af,ag,ah,ai,aj,ak,al,am,an,ao,ap,aq,ar,zzq,au,av,aw,ax,ay,az,aA,aB,aC,aD,aE,aF,aG,aH,aI,aJ,aK,aL],[]⟩ C:=by
 conv=>arg 2;whnf
 go_wp2_with fail
 go_loopw [14] (λq wr => ∃p:Nat,p<=pos L nm/\q= .int .i64 p/\Below C.heap.size C wr) (λq _=>pos L nm - (intOf q).toNat)
 case atStart=>exact⟨0,Ai _,rfl,Aq _ _⟩
 case round =>
  obtain⟨p,hp,rfl,hw⟩:=hrel;have hpl:=F2 L nm;have t0r:=BR hw t0;have t0q:=As t0r;have aM:=Aa hw
  go_upto_region 14 with fail
  go_cut [14,66] from 52 to 68 (λq c wx=>q= .int .i64 (p:Int)/\c= .bool (decide (p<pos L nm))/\Below wr.heap.size wr wx)
  case first =>
   by_cases aN:p<L.length
   ·have aO:=HPC.out.kept' hw
    obtain⟨gL,capL,hv,-⟩:=aO.ptr aN;cases hv;have k0:=As (aO.cells aN).1;have hp1:(p:Int)<(L.length:Int):=by omega
    have hp0:(0:Int)<=(p:Int):=by omega
    have hlt2:Op.bytesLess (Ci L p).name.toList nm.toList=decide (p<pos L nm):=by
     rw[UU]
     by_cases h:p<pos L nm
     ·rw[MC h,Bi h]
     ·have e:p=pos L nm:=by omega
      rw[AY h,e];exact OZ (by rw[<-e];exact aN)
    clear aO hw;refine Ar (by kernel_rfl) (by kernel_rfl) ?_
    repeat (go_big_quiet_step (fail))
    refine AK ?_;intro _ aP;obtain⟨⟨dq,osq⟩,a⟩:=aP;subst a
    go_wp2_with fail
    go_meet
    exact⟨rfl,by rw[<-hlt2],Av _ _ _⟩
   ·have hp1 : ¬(p:Int)<(L.length:Int):=by omega
    have hpd:decide (p<pos L nm)=false:=AY (by omega);have hpd2:decide ((p:Int)<(L.length:Int))=false:=AY hp1;clear hw;refine Ar (by kernel_rfl) (by kernel_rfl) ?_
    repeat (go_big_quiet_step (fail))
    refine AK ?_;intro _ aP;obtain⟨⟨dq,osq⟩,a⟩:=aP;subst a
    go_wp2_with fail
    go_meet
    exact⟨rfl,by rw[hpd],Av _ _ _⟩
  case rest =>
   obtain⟨wk,hren⟩:∃wk,wk=wc:=⟨_,rfl⟩;subst hren;obtain⟨rfl,rfl,hwk⟩:=hcut;have HWK:Hid (Below C.heap.size C wk):=aM.out.trans (hwk.mono aM.out.size);clear hwk hw t0r t0q aM
   by_cases hpp:p<pos L nm
   ·rw[Bi hpp]
    go_wp2_with fail
    go_roundw
    case rel=>exact⟨p+1,by omega,by go_num,HWK.out⟩
    case measure=>simp[intOf];omega
   ·have hpe:p=pos L nm:=by omega
    rw[AY hpp];subst hpe
    go_wp2_with fail
    exact HEND.out _ _ _ _ _ _ _ _ _ _ _ _ _ _ _ _ _ wk HWK.out
theorem NT{Q:Exit->Act->World->Prop}{bt qc:Nat}{qa:Option Addr}{nm:ByteArray}{L:List PPart}{O:Nat->Prop}{C wk:World}{I:Nat->Nat->Value}(HPC:Hid (Parts O C (.slice qa L.length qc) L I))(t0:C.cell? ⟨bt,0,none⟩=some (.string nm))(hl90:L.length<=90)(HSM:Hid (BY nm))(J:Hid (∀b,O b->b<C.heap.size))(P:Hid (Below C.heap.size C wk)){v0 v1 v2 v3 v4 v6 v7 v8 v9 v10 v11 v12 v15 v16 v17 v18 v19 v20 v21 v22 v23 v24 v25 v26 v27 v28 v29 v30 v31 v32 v33 v34 v35 v36 v37 v38 v39 v40 v41 v42 v43 v44 v45 v46 v47 v48 v49 v50 v51 v52 v53 v54 v55 v56 v57 v58 v59 v60 v61 v62 v63 v64 v65 v66 v67 v68 v69 v70 v71 v72 v73 v74 v75 v76 v77 v78 v79 v80 v81 v82 v83 v84 v85 v86 v87 v88 v89 v90 v91 v92 v93 v94 v95 v96 v97 v98 v99 V W X Y Z aa ab ac ad ae af ag ah ai aj ak al am an ao ap aq ar zzq au av aw ax ay az aA aB aC aD aE aF aG aH aI aJ aK aL aM aN aO aP aQ aR aS aT aU aV aW aX aY aZ a0 a1 a2 a3 a4 a5 a6 a7 a8 a9 ba bb bc bd be bf bg bh bi bj bk bl:Value}(bm:Hid (∀(u69 u70 u71 u72 u73 u74 u75 u76 u77 u78 u79 u80 u81 u82 u83 u84 u85 u86 u87 u88 u89 u90 u91 u92 u93 u94 u95 u96 u97 u98:Value) (va:Option Addr) (vc:Nat) (rj:Nat->Nat->Value) (w':World),Parts O w' (.slice va (ins L nm).length vc) (ins L nm) rj->Keep O C w'->Q .normal ⟨#[v0,v1,v2,v3,v4,.slice va (ins L nm).length vc,v6,v7,v8,v9,v10,v11,v12,.pointer (some ⟨bt,0,none⟩),.int .i64 (pos L nm:Int),v15,v16,v17,v18,v19,v20,v21,v22,v23,v24,v25,v26,v27,v28,v29,v30,v31,v32,v33,v34,v35,v36,v37,v38,v39,v40,v41,v42,v43,v44,v45,v46,v47,v48,v49,v50,v51,v52,v53,v54,v55,v56,v57,v58,v59,v60,v61,v62,v63,v64,v65,v66,v67,v68,u69,u70,u71,u72,u73,u74,u75,u76,u77,u78,u79,u80,u81,u82,u83,u84,u85,u86,u87,u88,u89,u90,u91,u92,u93,u94,u95,u96,u97,u98,v99,V,W,X,Y,Z,aa,ab,ac,ad,ae,af,ag,ah,ai,aj,ak,al,am,an,ao,ap,aq,ar,zzq,au,av,aw,ax,ay,az,aA,aB,aC,aD,aE,aF,aG,aH,aI,aJ,aK,aL,aM,aN,aO,aP,aQ,aR,aS,aT,aU,aV,aW,aX,aY,aZ,a0,a1,a2,a3,a4,a5,a6,a7,a8,a9,ba,bb,bc,bd,be,bf,bg,bh,bi,bj,bk,bl],[]⟩ w')) :
  Code.wp Tryz.prog (Us 16) Q ⟨#[v0,v1,v2,v3,v4,.slice qa L.length qc,v6,v7,v8,v9,v10,v11,v12,.pointer (some ⟨bt,0,none⟩),.int .i64 (pos L nm:Int),v15,v16,v17,v18,v19,v20,v21,v22,v23,v24,v25,v26,v27,v28,v29,v30,v31,v32,v33,v34,v35,v36,v37,v38,v39,v40,v41,v42,v43,v44,v45,v46,v47,v48,v49,v50,v51,v52,v53,v54,v55,v56,v57,v58,v59,v60,v61,v62,v63,v64,v65,v66,v67,v68,v69,v70,v71,v72,v73,v74,v75,v76,v77,v78,v79,v80,v81,v82,v83,v84,v85,v86,v87,v88,v89,v90,v91,v92,v93,v94,v95,v96,v97,v98,v99,V,W,X,Y,Z,aa,ab,ac,ad,ae,af,ag,ah,ai,aj,ak,al,am,an,ao,ap,aq,ar,zzq,au,av,aw,ax,ay,az,aA,aB,aC,aD,aE,aF,aG,aH,aI,aJ,aK,aL,aM,aN,aO,aP,aQ,aR,aS,aT,aU,aV,aW,aX,aY,aZ,a0,a1,a2,a3,a4,a5,a6,a7,a8,a9,ba,bb,bc,bd,be,bf,bg,bh,bi,bj,bk,bl],[]⟩ wk:=by
 conv=>arg 2;whnf
 dsimp only;have t0k:=BR P.out t0;have t0q:=As t0k
 go_upto_region 16 with fail
 go_cut [83] from 69 to 98 (λc wx=>c= .bool (!Fx L nm)/\Below wk.heap.size wk wx)
 case first =>
  by_cases R:pos L nm<L.length
  ·have bw:=HPC.out.kept' P.out
   obtain⟨gL,capL,hv,-⟩:=bw.ptr R;cases hv;have k0:=As (bw.cells R).1;have hp1:(pos L nm:Int)<(L.length:Int):=by omega
   have hp0:(0:Int)<=(pos L nm:Int):=by omega
   have hp2:((pos L nm:Int)==(L.length:Int))=false:=by simp;omega
   have A:Fx L nm=((Ci L (pos L nm)).name.toList==nm.toList):=by unfold Fx;rw[Bi R,CT];rfl
   have HH:=Aa A;clear bw A;refine Ar (by kernel_rfl) (by kernel_rfl) ?_
   repeat (go_big_quiet_step (fail))
   refine AK ?_;intro _ bx;obtain⟨⟨dq,osq⟩,K⟩:=bx;subst K
   go_wp2_with fail
   go_meet
   exact⟨by rw[HH.out],Av _ _ _⟩
  ·have hpe:pos L nm=L.length:=by have:=F2 L nm;omega
   have hp2:((pos L nm:Int)==(L.length:Int))=true:=by rw[hpe];simp
   have A:Fx L nm=false:=by unfold Fx;rw[AY R];rfl
   have HH:=Aa A;clear hpe A;refine Ar (by kernel_rfl) (by kernel_rfl) ?_
   repeat (go_big_quiet_step (fail))
   refine AK ?_;intro _ bx;obtain⟨⟨dq,osq⟩,K⟩:=bx;subst K
   go_wp2_with fail
   go_meet
   exact⟨by rw[HH.out];rfl,Av _ _ _⟩
 case rest =>
  obtain⟨s,hren⟩:∃s,s=wc:=⟨_,rfl⟩;subst hren;obtain⟨rfl,hwi⟩:=hcut;have S:Below C.heap.size C s:=P.out.trans (hwi.mono P.out.size);have M:=Aa (HPC.out.kept' S);have t0i:=BR S t0;have bz:=Aa S;clear hwi S t0k t0q
  cases hh:Fx L nm with
  |true =>
   have HKI:Hid (Keep O C s):=Keep.of bz.out J.out;have bn:=Aa (GF hh);clear hh
   go_wp2_with fail
   have bo:L.length=(ins L nm).length:=by rw[bn.out]
   rw[bo];exact bm.out _ _ _ _ _ _ _ _ _ _ _ _ _ _ _ _ _ _ _ _ _ _ _ _ _ _ _ _ _ _ qa qc I s (by rw[bn.out];exact M.out) HKI.out
  |false =>
   have HH:=Aa hh;clear hh;have hpl:=F2 L nm;obtain⟨sl,cl,sr,cr,op1,op2,bp,hn1,hn2⟩:=QT M.out.row hpl (by omega);obtain⟨iP,pi,bA,bB,bC⟩:=Cd Tryz.info99;have bq:=Aa bp;have HF1:Hid (∀u∈(List.range (pos L nm*4)).map (C5 L I),u.oneCell'=true):=λu hu=>by
    obtain⟨q,hq,rfl⟩:=List.mem_map.1 hu;have:q<pos L nm*4:=by simpa using hq
    exact M.out.one q (by omega)
   have HF2:Hid (∀u∈(List.range ((L.length - pos L nm)*4)).map (λq=>C5 L I (pos L nm*4+q)),u.oneCell'=true):=λu hu=>by
    obtain⟨q,hq,rfl⟩:=List.mem_map.1 hu;have:q<(L.length - pos L nm)*4:=by simpa using hq
    exact M.out.one _ (by omega)
   clear bp
   go_upto_region 17 with fail
   refine Cq (by kernel_rfl) (by kernel_rfl) [84,85,86,87,88,89,90,91,92,93,94,95,96,97,98,5] (by kernel_rfl) (by kernel_rfl) (by kernel_rfl) NQ (rA s.heap.size bt L.length (pos L nm) (.slice qa L.length qc) (.slice sl (pos L nm) cl) (.slice sr (L.length - pos L nm) cr) nm (C5 L I)) (λd n l=>Below s.heap.size s l/\(d 15=false->n 5= .slice qa L.length qc)) ⟨(Aq _ _).drew,λ_=>rfl⟩ ?_ ?_
   ·intro d n l i o a hL p z hF g T ha
    have m:d 99=false:=by
     cases h:d 99 with
     |false=>rfl
     |true=>exact absurd (hL 99 h) (by decide)
    have t0z:=BR a.1 t0i;obtain _|i:=i
    ·obtain rfl:=Ab g
     have hb:=BW l (Obj.cells #[] 99);refine BU (v:=.slice (some ⟨l.heap.size,0,none⟩) 0 0) (w':=l.alloc (.cells #[] 99)) ?_ ⟨⟨a.1.trans (hb.mono a.1.size),a.2⟩,⟨l.heap.size,rfl,a.1.size,Ap _ _⟩,λq _ _ _ h=>EJ q h hb⟩;go_simp
    obtain _|i:=i
    ·obtain rfl:=Ab g
     have bD:d 15=false:=by
      cases h:d 15 with
      |false=>rfl
      |true =>
       have h2:=p 15 _ h rfl ⟨1,.phase⟩ (by simp) rfl;have h3:d 1=false:=T;rw[h2]at h3;cases h3
     exact BU (v:=n 5) (w':=l) rfl ⟨⟨a.1,a.2⟩,a.2 bD,λq _ _ _ h=>EJ q h (Aq _ _)⟩
    obtain _|i:=i
    ·obtain rfl:=Ab g
     exact BU (v:=n 14) (w':=l) rfl ⟨⟨a.1,a.2⟩,hF 14 (by decide),λq _ _ _ h=>EJ q h (Aq _ _)⟩
    obtain _|i:=i
    ·obtain rfl:=Ab g
     have e1:n 85=_:=z 1 (ha ⟨1,.data⟩ (by simp) rfl) m;have e2:n 86=_:=z 2 (ha ⟨2,.data⟩ (by simp) rfl) m;exact BU (op1 n l _ rfl e1 e2) ⟨⟨a.1,a.2⟩,rfl,λq _ _ _ h=>EJ q h (Aq _ _)⟩
    obtain _|i:=i
    ·obtain rfl:=Ab g
     have w:d 10=true->d 4=true:=λh=>p 10 _ h rfl ⟨4,.data⟩ (by simp) rfl;have x:d 14=true->d 10=true:=λh=>p 14 _ h rfl ⟨10,.data⟩ (by simp) rfl;have B:d 15=true->d 14=true:=λh=>p 15 _ h rfl ⟨14,.data⟩ (by simp) rfl;have G:d 4=false:=T;obtain⟨g0,e1,hg0,ho0⟩:K0 s.heap.size (n 84) l:=z 0 (ha ⟨0,.data⟩ (by simp) rfl) T;have e2:n 87=_:=z 3 (ha ⟨3,.data⟩ (by simp) rfl) m;refine Ek (.tmp 84) (.tmp 87) 37 rfl s.heap.size 99 iP _ 4 88 Tryz.underlying37 pi bA bB bC rfl (by decide) (.slice (some ⟨g0,0,none⟩) 0 0) 0 _ e1 (P2 hg0 ho0) sl (pos L nm) cl _ e2 (by simp) (bq.out l a.1).1 hn1 HF1.out (by unfold maxLen;omega) (by omega) a.1.size ?_;intro v' w' y H _;have D:Hr s.heap.size (pos L nm) (C5 L I) v' w':=by
      unfold Hr B9;simpa using y
     refine⟨⟨a.1.grown H a.1.size (λk hk=>by cases hk;exact hg0),a.2⟩,D,λq hq E r N=>PO q N (λe _=>?_) (λe=>absurd e hq) (λ_ hE=>hE.grown H ho0 rfl) (λe _=>?_) (λe _=>?_)⟩
     ·subst e;exact absurd r (by unfold Fc DJ NQ;simp)
     ·subst e;rw[w E]at G;cases G
     ·rcases e with rfl|rfl
      ·rw[w (x E)]at G;cases G
      ·rw[w (x (B E))]at G;cases G
    obtain _|i:=i
    ·obtain rfl:=Ab g
     have e1:n 13= .pointer (some ⟨bt,0,none⟩):=hF 13 (by decide);refine BU (v:=.pointer (some ⟨bt,0,none⟩)) (w':=l) ?_ ⟨⟨a.1,a.2⟩,rfl,λq _ _ _ h=>EJ q h (Aq _ _)⟩;simp only[execOp,BV,e1];go_simp
    obtain _|i:=i
    ·obtain rfl:=Ab g
     have e1:n 89=_:=z 5 (ha ⟨5,.data⟩ (by simp) rfl) m;refine BU (v:=.string nm) (w':=l) ?_ ⟨⟨a.1,a.2⟩,rfl,λq _ _ _ h=>EJ q h (Aq _ _)⟩;simp only[execOp,BV,e1];go_simp
    obtain _|i:=i
    ·obtain rfl:=Ab g
     have e1:n 90=_:=z 6 (ha ⟨6,.data⟩ (by simp) rfl) m;refine BU (v:=.agg #[.string nm,.slice none 0 0]) (w':=l) ?_ ⟨⟨a.1,a.2⟩,rfl,λq _ _ _ h=>EJ q h (Aq _ _)⟩;simp only[execOp,AJ,AG,AI,BV,e1];go_simp
    obtain _|i:=i
    ·obtain rfl:=Ab g
     have e1:n 91=_:=z 7 (ha ⟨7,.data⟩ (by simp) rfl) m;refine BU (v:=.agg #[.string nm,.slice none 0 0,.slice none 0 0,.slice none 0 0]) (w':=l) ?_ ⟨⟨a.1,a.2⟩,rfl,λq _ _ _ h=>EJ q h (Aq _ _)⟩;simp only[execOp,AJ,AG,AI,BV,e1];go_simp
    obtain _|i:=i
    ·obtain rfl:=Ab g
     have e1:n 92=_:=z 8 (ha ⟨8,.data⟩ (by simp) rfl) m;have hb:=BW l (Obj.cells #[.string nm,.slice none 0 0,.slice none 0 0,.slice none 0 0] 99);refine BU (v:=.slice (some ⟨l.heap.size,0,none⟩) 1 1) (w':=l.alloc (.cells #[.string nm,.slice none 0 0,.slice none 0 0,.slice none 0 0] 99)) ?_ ⟨⟨a.1.trans (hb.mono a.1.size),a.2⟩,⟨l.heap.size,rfl,a.1.size,Ap _ _⟩,λq _ _ _ h=>EJ q h hb⟩;simp only[execOp,AJ,AG,AI,BV,e1];go_simp
    obtain _|i:=i
    ·obtain rfl:=Ab g
     have w:d 10=true->d 4=true:=λh=>p 10 _ h rfl ⟨4,.data⟩ (by simp) rfl;have x:d 14=true->d 10=true:=λh=>p 14 _ h rfl ⟨10,.data⟩ (by simp) rfl;have B:d 15=true->d 14=true:=λh=>p 15 _ h rfl ⟨14,.data⟩ (by simp) rfl;have F:d 10=false:=T;have p4:d 4=true:=ha ⟨4,.data⟩ (by simp) rfl;have e1:B9 l s.heap.size 99 4 (n 88) (pos L nm) (C5 L I):=z 4 p4 T;obtain⟨b9,e2,hb9,ho9⟩:Tu s.heap.size nm (n 93) l:=z 9 (ha ⟨9,.data⟩ (by simp) rfl) T;refine Ek (.tmp 88) (.tmp 93) 37 rfl s.heap.size 99 iP _ 4 88 Tryz.underlying37 pi bA bB bC rfl (by decide) (n 88) (pos L nm) _ rfl e1 (some ⟨b9,0,none⟩) 1 1 (GV nm) e2 rfl (IQ ho9) (λh=>by cases h) (by intro u hu;simp[GV]at hu;rcases hu with rfl|rfl<;>rfl) (by unfold maxLen;omega) (by omega) a.1.size ?_
     intro v' w' y H _;have D:Hr s.heap.size ((pos L nm)+1) (C4 (C5 L I) (pos L nm) (GV nm)) v' w':=by
      unfold Hr B9;rw[PR];exact y
     refine⟨⟨a.1.grown H a.1.size (λk hk=>(e1.lt hk).1),a.2⟩,D,λq hq E r N=>PO q N (λe _=>?_) (λe _=>?_) (λe _=>?_) (λe=>absurd e hq) (λe _=>?_)⟩
     ·subst e
      have j:(decide (4=10)||d 4)=false:=r;rw[p4]at j;cases j
     ·subst e;exact absurd r (by unfold Fc DJ NQ;simp)
     ·subst e;exact absurd r (by unfold Fc DJ NQ;simp)
     ·rcases e with rfl|rfl
      ·rw[x E]at F;cases F
      ·rw[x (B E)]at F;cases F
    obtain _|i:=i
    ·obtain rfl:=Ab g
     have bD:d 15=false:=by
      cases h:d 15 with
      |false=>rfl
      |true =>
       have h2:=p 15 _ h rfl ⟨11,.phase⟩ (by simp) rfl;have h3:d 11=false:=T;rw[h2]at h3;cases h3
     exact BU (v:=n 5) (w':=l) rfl ⟨⟨a.1,a.2⟩,a.2 bD,λq _ _ _ h=>EJ q h (Aq _ _)⟩
    obtain _|i:=i
    ·obtain rfl:=Ab g
     exact BU (v:=n 14) (w':=l) rfl ⟨⟨a.1,a.2⟩,hF 14 (by decide),λq _ _ _ h=>EJ q h (Aq _ _)⟩
    obtain _|i:=i
    ·obtain rfl:=Ab g
     have e1:n 95=_:=z 11 (ha ⟨11,.data⟩ (by simp) rfl) m;have e2:n 96=_:=z 12 (ha ⟨12,.data⟩ (by simp) rfl) m;exact BU (op2 n l _ rfl e1 e2) ⟨⟨a.1,a.2⟩,rfl,λq _ _ _ h=>EJ q h (Aq _ _)⟩
    obtain _|i:=i
    ·obtain rfl:=Ab g
     have w:d 10=true->d 4=true:=λh=>p 10 _ h rfl ⟨4,.data⟩ (by simp) rfl;have x:d 14=true->d 10=true:=λh=>p 14 _ h rfl ⟨10,.data⟩ (by simp) rfl;have B:d 15=true->d 14=true:=λh=>p 15 _ h rfl ⟨14,.data⟩ (by simp) rfl;have br:d 14=false:=T;have U:d 10=true:=ha ⟨10,.data⟩ (by simp) rfl;have p4:d 4=true:=w U;have e1:B9 l s.heap.size 99 4 (n 94) ((pos L nm)+1) (C4 (C5 L I) (pos L nm) (GV nm)):=z 10 U T;have e2:n 97=_:=z 13 (ha ⟨13,.data⟩ (by simp) rfl) m;refine Ek (.tmp 94) (.tmp 97) 37 rfl s.heap.size 99 iP _ 4 88 Tryz.underlying37 pi bA bB bC rfl (by decide) (n 94) ((pos L nm)+1) _ rfl e1 sr (L.length - (pos L nm)) cr _ e2 (by simp) (bq.out l a.1).2 hn2 HF2.out (by unfold maxLen;omega) (by omega) a.1.size ?_;intro v' w' y H _;have D:Hr s.heap.size (L.length+1) (C4 (C5 L I) (pos L nm) (GV nm)) v' w':=by
      unfold Hr B9;rw[Po _ _ hpl];rw[show (pos L nm)+1+(L.length - (pos L nm))=L.length+1 by omega]at y;exact y
     refine⟨⟨a.1.grown H a.1.size (λk hk=>(e1.lt hk).1),a.2⟩,D,λq hq E r N=>PO q N (λe _=>?_) (λe _=>?_) (λe _=>?_) (λe _=>?_) (λe _=>?_)⟩
     ·subst e
      have j:(decide (4=14)||d 4)=false:=r;rw[p4]at j;cases j
     ·subst e
      have j:(decide (10=14)||d 10)=false:=r;rw[U]at j;cases j
     ·subst e
      have j:(decide (10=14)||d 10)=false:=r;rw[U]at j;cases j
     ·subst e;exact absurd r (by unfold Fc DJ NQ;simp)
     ·rcases e with rfl|rfl
      ·exact absurd rfl hq
      ·rw[B E]at br;cases br
    obtain _|i:=i
    ·obtain rfl:=Ab g
     exact BU (v:=n 98) (w':=l) rfl ⟨⟨a.1,λh=>by unfold DJ at h;simp at h⟩,z 14 (ha ⟨14,.data⟩ (by simp) rfl) m,λq _ _ _ h=>EJ q h (Aq _ _)⟩
    ·exfalso
     have bo:i+1+1+1+1+1+1+1+1+1+1+1+1+1+1+1+1<16:=(List.getElem?_eq_some_iff.1 g).1;omega
   ·intro d n l a hL bs z
    have m:d 99=false:=by
     cases h:d 99 with
     |false=>rfl
     |true=>exact absurd (hL 99 h) (by decide)
    have hR:B9 l s.heap.size 99 4 (n 5) (L.length+1) (C4 (C5 L I) (pos L nm) (GV nm)):=z 15 (bs 15 (by decide)) m;have bu:∀b,O b->b<s.heap.size:=λb hb=>Ah (J.out b hb) bz.out.size;obtain⟨r1,r2⟩:=M.out.put HH.out HSM.out (by unfold maxLen;omega) bu (hR.base (Ai _)) ⟨a.1.os,a.1.tape,a.1.output,a.1.size,λk hk _=>a.1.block k hk⟩ (.inr (by
     rcases hR.shape with⟨-,h0⟩|⟨gz,cz,hz,hbz,-,-⟩
     ·omega
     ·exact⟨gz,by rw[hz];rfl,hbz⟩))
    obtain⟨va,vc,e5,-⟩:=hR.slice;have hil:=Gj HH.out;rw[e5]at r1;rw[<-hil]at r1 e5;obtain⟨rj,hrj⟩:∃rj,Parts O l (.slice va (ins L nm).length vc) (ins L nm) rj:=⟨_,r1⟩;have bv:Hid (Parts O l (.slice va (ins L nm).length vc) (ins L nm) rj/\Keep O C l):=⟨hrj,(Keep.of bz.out J.out).trans r2⟩;simp only[Cn,Act.put,Au,AD,AE];rw[e5];clear z bs hL m hR a r1 r2 e5 hil bu hrj
    try go_wp2_with fail
    exact bm.out _ _ _ _ _ _ _ _ _ _ _ _ _ _ _ _ _ _ _ _ _ _ _ _ _ _ _ _ _ _ va vc rj l bv.out.1 bv.out.2
theorem M6{Q:Exit->Act->World->Prop}{rb bs gj t m vc k3 Cp:Nat}{g:Int}{sv:LServ}{S:PSeen}{a2 a3 A:Option Addr}{a:List PPart}{l:Nat->Prop}{C w0:World}{rv0:Nat->Nat->Value}(HTY:Hid (∀w',Keep l C w'->TyAt w' bs sv a2 a3 m A Cp S))(HGS:Hid (Kq S))(HKW:Hid ((Lit.int .i64 g).wf=true))(ac:Hid (∀b,l b->b<C.heap.size))(hml:m<sv.nt)(D:t<a.length)(hnf10:S.nf<=10)(f1:(Ci a t).fs.length<=900)(f2:(Ci a t).os.length<=900)(HRB:Hid (∀U,Keep l C U->U.heap[rb]? = some (.cells #[.int .i64 0,.int .i64 0] 39 (0,0))))(ad:Hid (Keep l C w0))(HP0:Hid (Parts l w0 (.slice (some ⟨gj,0,none⟩) a.length vc) (a.set t (Cc (Ci a t) g S 0)) rv0)){v0 v1 v2 v4 v5 v8 v9 v10 v13 v14 v16 v17 v18 v19 v20 v21 v22 v23 v24 v25 v26 v27 v28 v29 v30 v31 v32 v33 v34 v35 v36 v37 v38 v39 v40 v41 v42 v43 v44 v45 v46 v47 v48 v49 v50 v51 v52 v53 v54 v55 v56 v57 v58 v59 v60 v61 v62 v63 v64 v65 v66 v67 v68 v69 v70 v71 v72 v73 v74 v75 v76 v77 v78 v79 v80 v81 v82 v83 v84 v85 v86 v87 v88 v89 v90 v91 v92 v93 v94 v95 v96 v97 v98 v99 ae af ag ah ai aj ak al am an ao ap aq ar zzq au av aw ax ay v123 v124 v125 v126 v127 v128 v129 v130 v131 v132 v133 v134 v135 v136 v137 v138 v139 v140 v141 v142 v143 v144 v145 v146 v147 v148 v149 v150 v151 v152 v153 v154 v155 v156 v157 v158 v159 v160 v161 v162 v163 v164 v165 v166 v167 v168 v169 v170 v171 v172 v173 az aA aB aC:Value}(HEND:Hid (∀(u2 u16 u17 u122 u123 u124 u125 u126 u127 u128 u129 u130 u131 u132 u133 u134 u135 u136 u137 u138 u139 u140 u141 u142 u143 u144 u145 u146 u147 u148 u149 u150 u151 u152 u153 u154 u155 u156 u157 u158 u159 u160 u161 u162 u163 u164 u165 u166 u167 u168 u169 u170 u171 u172 u173:Value) (w':World),(∀j,j<S.nf->Fj (Ci a t) S j=false)->Keep l C w'->(∃n,Parts l w' (.slice (some ⟨gj,0,none⟩) a.length vc) (a.set t (Cc (Ci a t) g S S.nf)) n)->Q .normal ⟨#[v0,v1,u2,.pointer (some ⟨rb,0,none⟩),v4,v5,.int .i64 g,.pointer (some ⟨bs,0,none⟩),v8,v9,v10,.slice a3 sv.nt k3,.int .i64 (m:Int),v13,v14,.pointer (some ⟨gj,t*4,none⟩),u16,u17,v18,v19,v20,v21,v22,v23,v24,v25,v26,v27,v28,v29,v30,v31,v32,v33,v34,v35,v36,v37,v38,v39,v40,v41,v42,v43,v44,v45,v46,v47,v48,v49,v50,v51,v52,v53,v54,v55,v56,v57,v58,v59,v60,v61,v62,v63,v64,v65,v66,v67,v68,v69,v70,v71,v72,v73,v74,v75,v76,v77,v78,v79,v80,v81,v82,v83,v84,v85,v86,v87,v88,v89,v90,v91,v92,v93,v94,v95,v96,v97,v98,v99,ae,af,ag,ah,ai,aj,ak,al,am,an,ao,ap,aq,ar,zzq,au,av,aw,ax,ay,.slice A S.nf Cp,.int .i64 (S.nf:Int),u122,u123,u124,u125,u126,u127,u128,u129,u130,u131,u132,u133,u134,u135,u136,u137,u138,u139,u140,u141,u142,u143,u144,u145,u146,u147,u148,u149,u150,u151,u152,u153,u154,u155,u156,u157,u158,u159,u160,u161,u162,u163,u164,u165,u166,u167,u168,u169,u170,u171,u172,u173,az,aA,aB,aC],[]⟩ w'))(HRET:Hid (∀(a':Act) (U:World) (q:Nat),q<S.nf->Fj (Ci a t) S q=true->Keep l C U->a'.defers = []->a'.tmps.getD 2 undef= .slice none 0 0->a'.tmps.getD 3 undef= .pointer (some ⟨rb,0,none⟩)->Q .ret a' ((U.setCell ⟨rb,0,none⟩ (.int .i64 6)).setCell ⟨rb,1,none⟩ (.int .i64 g)))) :
  Code.wp Tryz.prog (KI 6) Q ⟨#[v0,v1,v2,.pointer (some ⟨rb,0,none⟩),v4,v5,.int .i64 g,.pointer (some ⟨bs,0,none⟩),v8,v9,v10,.slice a3 sv.nt k3,.int .i64 (m:Int),v13,v14,.pointer (some ⟨gj,t*4,none⟩),v16,v17,v18,v19,v20,v21,v22,v23,v24,v25,v26,v27,v28,v29,v30,v31,v32,v33,v34,v35,v36,v37,v38,v39,v40,v41,v42,v43,v44,v45,v46,v47,v48,v49,v50,v51,v52,v53,v54,v55,v56,v57,v58,v59,v60,v61,v62,v63,v64,v65,v66,v67,v68,v69,v70,v71,v72,v73,v74,v75,v76,v77,v78,v79,v80,v81,v82,v83,v84,v85,v86,v87,v88,v89,v90,v91,v92,v93,v94,v95,v96,v97,v98,v99,ae,af,ag,ah,ai,aj,ak,al,am,an,ao,ap,aq,ar,zzq,au,av,aw,ax,ay,.slice A S.nf Cp,.int .i64 (S.nf:Int),.int .i64 0,v123,v124,v125,v126,v127,v128,v129,v130,v131,v132,v133,v134,v135,v136,v137,v138,v139,v140,v141,v142,v143,v144,v145,v146,v147,v148,v149,v150,v151,v152,v153,v154,v155,v156,v157,v158,v159,v160,v161,v162,v163,v164,v165,v166,v167,v168,v169,v170,v171,v172,v173,az,aA,aB,aC],[]⟩ w0:=by
 obtain⟨iF,fi,fz0,fz1,fz2⟩:=Cd Tryz.info113;obtain⟨iO,oi,oz0,oz1,oz2⟩:=Cd Tryz.info92;have hown:BY S.own:=HGS.out.2.1;refine Iu ?_
 conv=>arg 2;whnf
 go_wp2_with fail
 go_loopw [122] (λi wr => ∃q:Nat,q<=S.nf/\i= .int .i64 q/\Hid (∀j,j<q->Fj (Ci a t) S j=false)/\Keep l C wr/\∃n,Parts l wr (.slice (some ⟨gj,0,none⟩) a.length vc) (a.set t (Cc (Ci a t) g S q)) n) (λi _=>S.nf - (intOf i).toNat)
 case atStart=>exact⟨0,Ai _,rfl,(λj hj=>absurd hj (Ak _)),ad.out,rv0,HP0.out⟩
 case round =>
  clear HP0 ad;obtain⟨q,hq,rfl,hcl,G,rk,V⟩:=hrel;have HCF:=Aa hcl;clear hcl
  by_cases W:q<S.nf
  ·have r:=HTY.out wr G
   obtain⟨fb,fo,hfa,f0,f1',f2',hs0,hs2,hkw⟩:=r.fld.2 q W;rw[hfa];have HGF:Hid (IA (S.F q)):=⟨hs0,hs2,hkw⟩;have hql':(q:Int)<(S.nf:Int):=by omega
   have hq0:(0:Int)<=(q:Int):=by omega
   have Y:t<(a.set t (Cc (Ci a t) g S q)).length:=by rw[Be];exact D
   generalize hE:wr.alloc (Obj.cells #[.string (S.F q).name,.int .i64 (S.F q).kind,.string (S.F q).type] 113)=E;have Z:Below wr.heap.size wr E:=by rw[<-hE];exact BW _ _
   have m0:E.cell? ⟨wr.heap.size,0,none⟩=some (.string (S.F q).name):=by rw[<-hE,Ac _ _ _ _ rfl];rfl
   have m1:E.cell? ⟨wr.heap.size,1,none⟩=some (.int .i64 (S.F q).kind):=by rw[<-hE,Ac _ _ _ _ rfl];rfl
   have m2:E.cell? ⟨wr.heap.size,2,none⟩=some (.string (S.F q).type):=by rw[<-hE,Ac _ _ _ _ rfl];rfl
   have hYr:∀b,l b->b<wr.heap.size:=λb hb=>Ah (ac.out b hb) G.size;have H:=V.kept' Z;have hKE:Keep l C E:=G.trans (Keep.of Z hYr);have hlS:(a.set t (Cc (Ci a t) g S q)).length=a.length:=Be;rw[<-hlS]at H;obtain⟨g',cap',I,J,a2',c2',a3',c3',hv,e1,e2,e3,k0,k1,k2,K⟩:=H.aggs Y;cases hv;have R0:=H.rows 0 t (by decide) Y;have hgd:=H.good t Y;rw[D8 D]at e1 e2 e3 k0 k1 k2 K R0 hgd;have aa:B9 E 0 113 3 (rk 0 t) (Cc (Ci a t) g S q).fs.length (B2 (De (Cc (Ci a t) g S q))):=R0;obtain⟨a9,c9,e9,-,aD⟩:=aa.fieldsAt (hgd.len 0) hgd.fs;rw[e1]at e9;cases e9;have hfl:(Cc (Ci a t) g S q).fs.length<=910:=by unfold Cc;simp;omega
   have hol:(Cc (Ci a t) g S q).os.length<=910:=by unfold Cc;simp;omega
   have cA:∀d os,Calls Tryz.prog 41 #[.slice I (Cc (Ci a t) g S q).fs.length J,.string (S.F q).name] (grow (redrawn E d) os) λe w''=>e= .returned (.bool (decide (0<=BX (Cc (Ci a t) g S q).fs.length (De (Cc (Ci a t) g S q)) (S.F q).name)))/\∃p:Regrown,w''=grow (redrawn E p.d) p.os:=λd os=>AF (J4 _ _ _ _ _ _ (aD.kept (Av E d os)));have HCI:=Aa (Mg (p:=Ci a t) (svc:=g) (S:=S) (k:=q));rw[e1]at aa;have HR0:=Aa aa;have HPE:=Aa H;have HKE:=Aa hKE;have HYE:Hid (∀b,l b->b<E.heap.size):=λb hb=>Ah (hYr b hb) Z.size;have HGD:=Aa hgd;have E1:=Aa e1;have p1:=As k1;have p0:=As m0;clear H hKE hYr Z R0 aa hgd e1 e2 e3 k0 k2 K aD r G V hs0 hs2 hkw hfa;generalize BX (Cc (Ci a t) g S q).fs.length (De (Cc (Ci a t) g S q)) (S.F q).name=fx at *;generalize hyy:decide (0<=fx)=y at *;have HYD:=Aa hyy;clear hyy
   go_wp2_with fail
   clear hE f0 f1' f2';refine Ar (by kernel_rfl) (by kernel_rfl) ?_
   repeat (go_big_quiet_step (first|exact cA _ _))
   refine AK ?_;intro _ hw';obtain⟨⟨dq,osq⟩,hw''⟩:=hw';subst hw'';have L:=Av E dq osq;have k1:=As k1 dq osq;have m0:=As m0 dq osq;have m1:=As m1 dq osq;have m2:=As m2 dq osq;have HKU:Hid (Keep l C (grow (redrawn E dq) osq)):=HKE.out.trans (Keep.of L HYE.out);have HPU:=Aa (HPE.out.kept' L);have HR0U:=Aa (HR0.out.kept L);have HYU:Hid (∀b,l b->b<(grow (redrawn E dq) osq).heap.size):=λb hb=>Ah (HYE.out b hb) L.size;clear L cA p0 p1 HPE HR0 HKE HYE;generalize grow (redrawn E dq) osq=U at *;cases y
   case true =>
    have hneg:0<=fx:=of_decide_eq_true HYD.out;have hcq:Fj (Ci a t) S q=true:=HCI.out.2 (by omega);obtain⟨x0,x1,z0,z1⟩:=Dz (HRB.out U HKU.out);have HKUU:=HKU.out;rename_i Kx hKx;refine hKx _ _ ?_;clear hKx;refine wp_mono (TF rb g U x0 x1 z0 z1 ) ?_;rintro e a' w' ⟨rfl,hd,h2,h3,rfl⟩;exact HRET.out a' U q W hcq HKUU hd h2 h3
   have hneg : ¬0<=fx:=of_decide_eq_false HYD.out;have HCL2:Hid (∀j,j<q+1->Fj (Ci a t) S j=false):=λj hj=>by
    rcases Nat.lt_succ_iff_lt_or_eq.1 hj with h|h
    ·exact HCF.out j h
    ·rw[h]
     cases hc:Fj (Ci a t) S q with
     |false=>rfl
     |true=>have:=HCI.out.1 hc;omega
   clear hneg HCI HCF;have HAP:Hid (∀{X w':World} {x:Value},Below U.heap.size U X->w'.ownsRow 0 113 3 x ((Cc (Ci a t) g S q).fs.length+1) ((List.range ((Cc (Ci a t) g S q).fs.length*3)).map (B2 (De (Cc (Ci a t) g S q)))++Hd (S.F q))->X.grownBy w' (Value.slice I (Cc (Ci a t) g S q).fs.length J).ownBlock->(x.ownBlock=(Value.slice I (Cc (Ci a t) g S q).fs.length J).ownBlock\/x.ownBlock=some X.heap.size) ->
     (∃n,Parts l (w'.setCell ⟨gj,t*4+1,none⟩ x) (.slice (some ⟨gj,0,none⟩) (a.set t (Cc (Ci a t) g S q)).length vc) ((a.set t (Cc (Ci a t) g S q)).set t (pF (Cc (Ci a t) g S q) (S.F q))) n)/\Keep l U (w'.setCell ⟨gj,t*4+1,none⟩ x)/\w'.cell? ⟨gj,t*4+1,none⟩=some (.slice I (Cc (Ci a t) g S q).fs.length J)/\w'.frozen? ⟨gj,t*4+1,none⟩=false):=λhX h1 h2 h3=>by
    rw[<-E1.out]at h2 h3 ⊢;have e:=D8 (p:=(Cc (Ci a t) g S q)) D;exact Ft HPU.out HYU.out (c:=0) (by decide) Y (by rw[e];exact T9 _ _) (Sg HGD.out HGF.out (by unfold maxLen;omega)) hX (by rw[e];exact h1) h2 h3
   have hgU:gj<U.heap.size:=An k1;have hbU:wr.heap.size<U.heap.size:=An m0
   go_wp2_with fail
   go_cut [122] from 122 to 173 (λi wx=>i= .int .i64 q/\(∃n,Parts l wx (.slice (some ⟨gj,0,none⟩) (a.set t (Cc (Ci a t) g S q)).length vc) ((a.set t (Cc (Ci a t) g S q)).set t (pF (Cc (Ci a t) g S q) (S.F q))) n)/\Keep l U wx)
   case first =>
    go_region_law (refine Ex rfl (.tmp 142) (.tmp 144) 94 rfl 0 113 iF _ 3 40 Tryz.underlying94 fi fz0 fz1 fz2 rfl (by decide) (.slice I (Cc (Ci a t) g S q).fs.length J) (Cc (Ci a t) g S q).fs.length _ (by simp[Act.eval]) ((HR0U.out.kept (BW U (Obj.cells #[.string (S.F q).name,.int .i64 (S.F q).kind,.string (S.F q).type] 113))).at (λ_ _=>rfl)) (some ⟨U.heap.size,0,none⟩) 1 1 (Hd (S.F q)) (by simp[Act.eval]) rfl (CI U #[.string (S.F q).name,.int .i64 (S.F q).kind,.string (S.F q).type] _) (λh=>by cases h) (by intro u hu;simp[Hd]at hu;rcases hu with rfl|rfl|rfl<;>rfl) (by unfold maxLen;omega) (by omega) (Ai _) ?_;intro x w' hw1 hw2 hw3;obtain⟨vx,vy,hvv⟩:=Fw hw1;subst hvv;obtain⟨M,N,hcc,hff⟩:=HAP.out (X:=(U.alloc (Obj.cells #[.string (S.F q).name,.int .i64 (S.F q).kind,.string (S.F q).type] 113)).drew) (BW U _).drew hw1 hw2 hw3;have HPP:=Aa M;have HKK:=Aa N;clear M N hw1 hw2 hw3)
    all_goals (try go_wp2_with fail)
    all_goals go_meet
    all_goals exact⟨rfl,HPP.out,HKK.out⟩
   case rest =>
    obtain⟨o,hren⟩:∃o,o=wc:=⟨_,rfl⟩;subst hren;obtain⟨rfl,⟨rk2,s⟩,hK2⟩:=hcut;have z:Keep l C o:=HKU.out.trans hK2;have hY5:∀b,l b->b<o.heap.size:=λb hb=>Ah (ac.out b hb) z.size;rw[J1]at s;have P:(a.set t (pF (Cc (Ci a t) g S q) (S.F q))).length=a.length:=Be;rw[hlS,<-P]at s;have B:t<(a.set t (pF (Cc (Ci a t) g S q) (S.F q))).length:=by rw[P];exact D
    obtain⟨g',cap',b1',d1',v,w,b3',d3',hv,e1,e2,e3,k0,k1,k2,K⟩:=s.aggs B;cases hv;have r:=HTY.out o z;obtain⟨ob5,oo5,hta5,R⟩:=r.own;have ab:o.cell? ⟨bs,0,none⟩=some (.slice sv.ta sv.nt sv.tcap):=by simp[World.cell?,r.box]
    rw[hta5]at ab;obtain⟨tg,to5,tc,hta3,tx0,hKA⟩:=r.txt;subst hta3;obtain⟨nb,no,hna,n0,hso⟩:=hKA.2 q W;subst hna;have R1:=s.rows 1 t (by decide) B;have hgd:=s.good t B;rw[D8 D]at e1 e2 e3 k0 k1 k2 K R1 hgd;have T:Hid (∀{X w':World} {x:Value},Below o.heap.size o X->w'.ownsRow 0 92 3 x ((Cc (Ci a t) g S q).os.length+1) ((List.range ((Cc (Ci a t) g S q).os.length*3)).map (Cy (D1 (Cc (Ci a t) g S q)))++Fy ⟨g,S.own,S.O q⟩)->X.grownBy w' (Value.slice v (Cc (Ci a t) g S q).os.length w).ownBlock->(x.ownBlock=(Value.slice v (Cc (Ci a t) g S q).os.length w).ownBlock\/x.ownBlock=some X.heap.size) ->
      (∃n,Parts l (w'.setCell ⟨gj,t*4+2,none⟩ x) (.slice (some ⟨gj,0,none⟩) a.length vc) (a.set t (Cc (Ci a t) g S (q+1))) n)/\Keep l o (w'.setCell ⟨gj,t*4+2,none⟩ x)/\w'.cell? ⟨gj,t*4+2,none⟩=some (.slice v (Cc (Ci a t) g S q).os.length w)/\w'.frozen? ⟨gj,t*4+2,none⟩=false):=λhX h1 h2 h3=>by
     have e2':rk2 1 t= .slice v (Cc (Ci a t) g S q).os.length w:=e2;rw[<-e2']at h2 h3 ⊢;have e:=D8 (p:=pF (Cc (Ci a t) g S q) (S.F q)) D;have hh:=Ft s hY5 (c:=1) (by decide) B (p':=pO (pF (Cc (Ci a t) g S q) (S.F q)) ⟨g,S.own,S.O q⟩) (by rw[e];exact T5 _ _) (SG hgd ⟨hown,hso,HKW.out⟩ (by show (Cc (Ci a t) g S q).os.length<maxLen;unfold maxLen;omega)) hX (by rw[e];exact h1) h2 h3;rw[J1,P,<-KN]at hh;exact hh
    have HR1:Hid (B9 o 0 92 3 (.slice v (Cc (Ci a t) g S q).os.length w) (Cc (Ci a t) g S q).os.length (Cy (D1 (Cc (Ci a t) g S q)))):=by
     have e2':rk2 1 t= .slice v (Cc (Ci a t) g S q).os.length w:=e2;have R1':B9 o 0 92 3 (rk2 1 t) (Cc (Ci a t) g S q).os.length (Cy (D1 (Cc (Ci a t) g S q))):=R1;rw[e2']at R1';exact R1'
    have k2':o.cell? ⟨gj,t*4+2,none⟩=some (.slice v (Cc (Ci a t) g S q).os.length w):=k2;have hgC:gj<o.heap.size:=An k2';have hs5:bs<o.heap.size:=An ab;have ho5:ob5<o.heap.size:=An R;have ht5:tg<o.heap.size:=An tx0;have hn5':nb<o.heap.size:=An n0;have HK2:=Aa z;clear s hK2 z hY5 e1 e2 e3 k0 k1 k2 K hKA R1 hgd HAP HR0U HPU m0 m1 m2 r
    go_wp2_with fail
    refine Lp (gj:=gj) (tt:=t) (k:=g) (q:=q) (m:=m) (to5:=0) oi oz0 oz1 oz2 (by kernel_rfl) rfl rfl rfl rfl rfl rfl hml W (by omega) HR1.out k2' ab R (by rw[AL];exact tx0) n0 (λx w' hr=>?_) (λst w' x hr=>?_)
    ·obtain⟨Xr,hX,h1,h2,h3⟩:=hr
     have hh:=T.out hX h1 h2 h3;exact⟨⟨_,hh.2.2.1⟩,hh.2.2.2⟩
    obtain⟨Xr,hX,h1,h2,h3⟩:=hr;obtain⟨M,N,-,-⟩:=T.out hX h1 h2 h3;have HPP:=Aa M;have HK3:=Aa (HK2.out.trans N);simp only[Cn,Act.put,Au,AD,AE];clear M N hX h1 h2 h3 T HR1 k2' ab R tx0 n0
    go_wp2_with fail
    go_roundw
    case rel=>exact⟨q+1,by omega,by go_num,HCL2,HK3.out,HPP.out⟩
    case measure=>simp[intOf];omega
  ·have hqn:q=S.nf:=by omega
   subst hqn;have HKF:=Aa G;have HPF:Hid (∃rm',Parts l wr (.slice (some ⟨gj,0,none⟩) a.length vc) (a.set t (Cc (Ci a t) g S S.nf)) rm'):=⟨rk,V⟩;clear G V
   go_wp2_with fail
   exact HEND.out _ _ _ _ _ _ _ _ _ _ _ _ _ _ _ _ _ _ _ _ _ _ _ _ _ _ _ _ _ _ _ _ _ _ _ _ _ _ _ _ _ _ _ _ _ _ _ _ _ _ _ _ _ _ _ wr HCF.out HKF.out HPF.out
theorem Pq{Q:Exit->Act->World->Prop}{rb bs m qc k2 k3 Cp kf:Nat}{g:Int}{sv:LServ}{S:PSeen}{a2 a3 A qa:Option Addr}{L:List PPart}{Y:Nat->Prop}{wr:World}{rm:Nat->Nat->Value}(HTY:Hid (∀w',Keep Y wr w'->TyAt w' bs sv a2 a3 m A Cp S))(HGS:Hid (Kq S))(HKW:Hid ((Lit.int .i64 g).wf=true))(HYR:Hid (∀b,Y b->b<wr.heap.size))(hml:m<sv.nt)(hnf10:S.nf<=10)(HFW:Hid (Few L kf))(hkf:kf<=89)(HRB:Hid (∀U,Keep Y wr U->U.heap[rb]? = some (.cells #[.int .i64 0,.int .i64 0] 39 (0,0))))(HPM:Hid (Parts Y wr (.slice qa L.length qc) L rm)){v0 v1 v2 v4 v8 v9 v10 v12 v13 v14 v15 v16 v17 v18 v19 v20 v21 v22 v23 v24 v25 v26 v27 v28 v29 v30 v31 v32 v33 v34 v35 v36 v37 v38 v39 v40 v41 v42 v43 v44 v46 v48 v49 v50 v51 v52 v53 v54 v55 v56 v57 v58 v59 v60 v61 v62 v63 v64 v65 v66 v67 v68 v69 v70 v71 v72 v73 v74 v75 v76 v77 v78 v79 v80 v81 v82 v83 v84 v85 v86 v87 v88 v89 v90 v91 v92 v93 v94 v95 v96 v97 v98 v99 v100 v101 v102 v103 v104 v105 v106 v107 v108 v109 v110 v111 v112 v113 v114 v115 v116 v117 v118 v119 v120 v121 v122 v123 v124 v125 v126 v127 v128 v129 v130 v131 v132 v133 v134 v135 v136 v137 v138 v139 v140 v141 v142 v143 v144 v145 v146 v147 v148 v149 v150 v151 v152 v153 v154 v155 v156 v157 v158 v159 v160 v161 v162 v163 v164 v165 v166 v167 v168 v169 v170 v171 v172 v173 F G H I:Value}(HEND:Hid (∀(u2 u12 u13 u14 u15 u16 u17 u49 u50 u51 u52 u53 u54 u55 u56 u57 u58 u59 u60 u61 u62 u63 u64 u65 u66 u67 u68 u69 u70 u71 u72 u73 u74 u75 u76 u77 u78 u79 u80 u81 u82 u83 u84 u85 u86 u87 u88 u89 u90 u91 u92 u93 u94 u95 u96 u97 u98 u99 u100 u101 u102 u103 u104 u105 u106 u107 u108 u109 u110 u111 u112 u113 u114 u115 u116 u117 u118 u119 u120 u121 J K M N O P R T V W Z aa ab ac ad ae af ag ah ai aj ak al am an ao ap aq ar zzq au av aw ax ay az aA aB aC aD aE aF aG aH aI aJ aK aL aM aN aO aP:Value) (va:Option Addr) (vc:Nat) (rj:Nat->Nat->Value) (w':World),Gm L S=0->Keep Y wr w'->Parts Y w' (.slice va (Ez g L S).length vc) (Ez g L S) rj->Q .normal ⟨#[v0,v1,u2,.pointer (some ⟨rb,0,none⟩),v4,.slice va (Ez g L S).length vc,.int .i64 g,.pointer (some ⟨bs,0,none⟩),v8,v9,v10,.slice a3 sv.nt k3,u12,u13,u14,u15,u16,u17,v18,v19,v20,v21,v22,v23,v24,v25,v26,v27,v28,v29,v30,v31,v32,v33,v34,v35,v36,v37,v38,v39,v40,v41,v42,v43,v44,.slice a2 sv.nt k2,v46,.int .i64 (m:Int),v48,u49,u50,u51,u52,u53,u54,u55,u56,u57,u58,u59,u60,u61,u62,u63,u64,u65,u66,u67,u68,u69,u70,u71,u72,u73,u74,u75,u76,u77,u78,u79,u80,u81,u82,u83,u84,u85,u86,u87,u88,u89,u90,u91,u92,u93,u94,u95,u96,u97,u98,u99,u100,u101,u102,u103,u104,u105,u106,u107,u108,u109,u110,u111,u112,u113,u114,u115,u116,u117,u118,u119,u120,u121,J,K,M,N,O,P,R,T,V,W,Z,aa,ab,ac,ad,ae,af,ag,ah,ai,aj,ak,al,am,an,ao,ap,aq,ar,zzq,au,av,aw,ax,ay,az,aA,aB,aC,aD,aE,aF,aG,aH,aI,aJ,aK,aL,aM,aN,aO,aP,F,G,H,I],[]⟩ w'))(HRET:Hid (∀(a':Act) (U:World),Gm L S=6->Keep Y wr U->a'.defers = []->a'.tmps.getD 2 undef= .slice none 0 0->a'.tmps.getD 3 undef= .pointer (some ⟨rb,0,none⟩)->Q .ret a' ((U.setCell ⟨rb,0,none⟩ (.int .i64 6)).setCell ⟨rb,1,none⟩ (.int .i64 g)))) :
  Code.wp Tryz.prog (KI 3) Q ⟨#[v0,v1,v2,.pointer (some ⟨rb,0,none⟩),v4,.slice qa L.length qc,.int .i64 g,.pointer (some ⟨bs,0,none⟩),v8,v9,v10,.slice a3 sv.nt k3,v12,v13,v14,v15,v16,v17,v18,v19,v20,v21,v22,v23,v24,v25,v26,v27,v28,v29,v30,v31,v32,v33,v34,v35,v36,v37,v38,v39,v40,v41,v42,v43,v44,.slice a2 sv.nt k2,v46,.int .i64 (m:Int),v48,v49,v50,v51,v52,v53,v54,v55,v56,v57,v58,v59,v60,v61,v62,v63,v64,v65,v66,v67,v68,v69,v70,v71,v72,v73,v74,v75,v76,v77,v78,v79,v80,v81,v82,v83,v84,v85,v86,v87,v88,v89,v90,v91,v92,v93,v94,v95,v96,v97,v98,v99,v100,v101,v102,v103,v104,v105,v106,v107,v108,v109,v110,v111,v112,v113,v114,v115,v116,v117,v118,v119,v120,v121,v122,v123,v124,v125,v126,v127,v128,v129,v130,v131,v132,v133,v134,v135,v136,v137,v138,v139,v140,v141,v142,v143,v144,v145,v146,v147,v148,v149,v150,v151,v152,v153,v154,v155,v156,v157,v158,v159,v160,v161,v162,v163,v164,v165,v166,v167,v168,v169,v170,v171,v172,v173,F,G,H,I],[]⟩ wr:=by
 have l:=HTY.out wr (Keep.refl _ _);obtain⟨g2,hg2,n0,n1⟩:=l.typ;subst hg2;have hml':(m:Int)<(sv.nt:Int):=by omega
 have hm0:(0:Int)<=(m:Int):=by omega
 have aQ:L.length<=90:=by have:=HFW.out.len;omega
 generalize hA:wr.alloc (Obj.cells #[.string S.name,.slice A S.nf Cp] 96)=C;have z:Below wr.heap.size wr C:=by rw[<-hA];exact BW _ _
 have B:C.heap[wr.heap.size]? = some (.cells #[.string S.name,.slice A S.nf Cp] 96 (0,0)):=by rw[<-hA];exact Ap _ _
 have t0:C.cell? ⟨wr.heap.size,0,none⟩=some (.string S.name):=by simp[World.cell?,B]
 obtain⟨j,d⟩:∃j:Nat->Prop,j=λb=>Y b\/(wr.heap.size<=b/\b<C.heap.size):=⟨_,rfl⟩;have HPC:Hid (Parts j C (.slice qa L.length qc) L rm):=by rw[d];exact HPM.out.kept z
 have o:Hid (∀b,j b->b<C.heap.size):=λb hb=>by
  rw[d]at hb;rcases hb with hb|hb
  ·exact Ah (HYR.out b hb) z.size
  ·exact hb.2
 have aR:Hid (j wr.heap.size):=by rw[d];exact .inr ⟨Aj _,Ag B⟩
 have D:Hid (∀{a b:World},Keep j a b->Keep Y a b):=λh=>h.mono λb hb=>by rw[d];exact .inl hb
 have HPY:Hid (∀{a:World} {v:Value} {L':List PPart} {r:Nat->Nat->Value},Parts j a v L' r->Parts Y a v L' r):=λh=>h.less λb hb=>by rw[d];exact .inl hb
 have E:Hid (Keep Y wr C):=Keep.of z HYR.out;have HFI:=Aa (HFW.out.ins S.name);have HBT:=Aa B;have HSM:Hid (BY S.name):=HGS.out.1;have aS:Hid (∀w',Keep j C w'->TyAt w' bs sv (some ⟨g2,0,none⟩) a3 m A Cp S):=λw' h=>HTY.out w' (E.out.trans (D.out h));have HRBC:Hid (∀U,Keep j C U->U.heap[rb]? = some (.cells #[.int .i64 0,.int .i64 0] 39 (0,0))):=λU h=>HRB.out U (E.out.trans (D.out h));clear l z d B HPM HYR HTY HRB;refine Iu ?_
 conv=>arg 2;whnf
 go_upto_block 4 with fail
 clear hA n0 n1;generalize wr.heap.size=bt at *;refine Ml HPC t0 aQ (Aa ?_);intro u52 u53 u54 u55 u56 u57 u58 u59 u60 u61 u62 u63 u64 u65 u66 u67 u68 wk hwk;rename_i Kx hKx;refine hKx _ _ ?_;clear hKx;refine wp_seq ?_;refine NT HPC t0 aQ HSM o (Aa hwk) (Aa ?_);intro u69 u70 u71 u72 u73 u74 u75 u76 u77 u78 u79 u80 u81 u82 u83 u84 u85 u86 u87 u88 u89 u90 u91 u92 u93 u94 u95 u96 u97 u98 va vc rj i n w;show Code.wp _ _ _ _ _;obtain⟨k,-⟩:=GP (L:=L) (s:=S.name);obtain⟨gj,cj,hvj,-⟩:=n.ptr k;cases hvj;have l:=aS.out i w;obtain⟨ob,oo,hta,aT⟩:=l.own;have sv0:i.cell? ⟨bs,0,none⟩=some (.slice sv.ta sv.nt sv.tcap):=by simp[World.cell?,l.box]
 rw[hta]at sv0;clear hta;have hbtj:=(w.block _ aR.out).trans HBT.out;have hGp:=n.good _ k;obtain⟨f1,f2,f3⟩:=HFI.out.2 _ k;obtain⟨iO,oi,oz0,oz1,oz2⟩:=Cd Tryz.info92;obtain⟨g',cap',a1,c1,a5,c5,a6,c6,hv,e1,e5,e6,k0,k1,k2',k3'⟩:=n.aggs k;cases hv;have aU:∀b,j b->b<i.heap.size:=λb hb=>Ah (o.out b hb) w.size;have R2:=n.rows 2 _ (by decide) k;have hown:BY S.own:=HGS.out.2.1;have hl91:(ins L S.name).length<=91:=by have:=HFI.out.1;omega
 have HET:Hid (Gm L S=JP (Ci (ins L S.name) (pos L S.name)) S):=rfl;have HST:Hid (Ez g L S=(ins L S.name).set (pos L S.name) (Cc (Ci (ins L S.name) (pos L S.name)) g S S.nf)):=rfl;clear HPC HFI;generalize ins L S.name=e at *;generalize pos L S.name=t at *;have HAP:Hid (∀{X w':World} {v':Value},Below i.heap.size i X->w'.ownsRow 0 92 3 v' ((Ci e t).hs.length+1) ((List.range ((Ci e t).hs.length*3)).map (Cy (Eg (Ci e t)))++Fy ⟨g,S.own,⟨#[]⟩⟩)->X.grownBy w' (Value.slice a6 (Ci e t).hs.length c6).ownBlock->(v'.ownBlock=(Value.slice a6 (Ci e t).hs.length c6).ownBlock\/v'.ownBlock=some X.heap.size) ->
   (∃x,Parts j (w'.setCell ⟨gj,t*4+3,none⟩ v') (.slice (some ⟨gj,0,none⟩) e.length vc) (e.set t (Cc (Ci e t) g S 0)) x)/\Keep j i (w'.setCell ⟨gj,t*4+3,none⟩ v')/\w'.cell? ⟨gj,t*4+3,none⟩=some (.slice a6 (Ci e t).hs.length c6)/\w'.frozen? ⟨gj,t*4+3,none⟩=false):=λhX h1 h2 h3=>by
  rw[<-e6]at h2 h3 ⊢;rw[KB];exact Ft n aU (c:=2) (by decide) k (Ua (Ci e t) ⟨g,S.own,⟨#[]⟩⟩) (Sn hGp ⟨hown,Ai _,HKW.out⟩ (by unfold maxLen;omega)) hX h1 h2 h3
 rw[e6]at R2;have HR2:Hid (B9 i 0 92 3 (.slice a6 (Ci e t).hs.length c6) (Ci e t).hs.length (Cy (Eg (Ci e t)))):=R2;have HKJ:=Aa w;have hti:(t:Int)<(e.length:Int):=by omega
 have ht0:(0:Int)<=(t:Int):=by omega
 have hgj:gj<i.heap.size:=An k3';have hsj:bs<i.heap.size:=An sv0;have hoj:ob<i.heap.size:=An aT;clear n w l hbtj hGp aU R2 e1 e5 e6 k0 k1 k2' t0 hwk
 go_upto_region 19 with fail
 go_cut [15] from 99 to 118 (λp wx=>p= .pointer (some ⟨gj,t*4,none⟩)/\(∃x,Parts j wx (.slice (some ⟨gj,0,none⟩) e.length vc) (e.set t (Cc (Ci e t) g S 0)) x)/\Keep j i wx)
 case first =>
  go_region_law (refine Ex rfl (.tmp 106) (.tmp 115) 97 rfl 0 92 iO _ 3 40 Tryz.underlying97 oi oz0 oz1 oz2 rfl (by decide) (.slice a6 (Ci e t).hs.length c6) (Ci e t).hs.length _ (by simp[Act.eval]) ((HR2.out.kept (BW i (Obj.cells #[.int .i64 g,.string S.own,.string ⟨#[]⟩] 92))).at (λ_ _=>rfl)) (some ⟨i.heap.size,0,none⟩) 1 1 (Fy ⟨g,S.own,⟨#[]⟩⟩) (by simp[Act.eval]) rfl (CI i #[.int .i64 g,.string S.own,.string ⟨#[]⟩] _) (λh=>by cases h) (by intro u hu;simp[Fy]at hu;rcases hu with rfl|rfl|rfl<;>rfl) (by unfold maxLen;omega) (by omega) (Ai _) ?_;intro v' w' hw1 hw2 hw3;obtain⟨vx,vy,hvv⟩:=Fw hw1;subst hvv;obtain⟨hpp,hkk,hcc,hff⟩:=HAP.out (X:=(i.alloc (Obj.cells #[.int .i64 g,.string S.own,.string ⟨#[]⟩] 92)).drew) (BW i _).drew hw1 hw2 hw3;have HPP:=Aa hpp;have HKK:=Aa hkk;clear hpp hkk hw1 hw2 hw3)
  all_goals (try go_wp2_with fail)
  all_goals go_meet
  all_goals exact⟨by first|rfl|(go_simp;done)|(simp;done),HPP.out,HKK.out⟩
 case rest =>
  obtain⟨w0,hren⟩:∃w0,w0=wc:=⟨_,rfl⟩;subst hren;obtain⟨rfl,⟨rv0,hP0⟩,hK0⟩:=hcut;have y:Keep j C w0:=HKJ.out.trans hK0;have aV:=(y.block _ aR.out).trans HBT.out;have t1:w0.cell? ⟨bt,1,none⟩=some (.slice A S.nf Cp):=by simp[World.cell?,aV]
  have HP0:=Aa hP0;have HKC0:=Aa y;clear hP0 hK0 y aV HAP HR2 k3' sv0 aT
  go_upto_block 6 with fail
  refine M6 aS HGS HKW o hml k hnf10 (by omega) (by omega) HRBC HKC0 HP0 (Aa ?_) (Aa ?_)
  ·intro u2 u16 u17 J K M N O P R T V W Z aa ab ac ad ae af ag ah ai aj ak al am an ao ap aq ar zzq au av aw ax ay az aA aB aC aD aE aF aG aH aI aJ aK aL aM aN aO aP w' hcf hk hp
   obtain⟨x,hp⟩:=hp;have hl:(Ez g L S).length=e.length:=by rw[HST.out,Be]
   rw[<-hl];exact HEND.out _ _ _ _ _ _ _ _ _ _ _ _ _ _ _ _ _ _ _ _ _ _ _ _ _ _ _ _ _ _ _ _ _ _ _ _ _ _ _ _ _ _ _ _ _ _ _ _ _ _ _ _ _ _ _ _ _ _ _ _ _ _ _ _ _ _ _ _ _ _ _ _ _ _ _ _ _ _ _ _ _ _ _ _ _ _ _ _ _ _ _ _ _ _ _ _ _ _ _ _ _ _ _ _ _ _ _ _ _ _ _ _ _ _ _ _ _ _ _ _ _ _ _ _ _ _ _ _ _ _ _ _ (some ⟨gj,0,none⟩) vc x w' (by rw[HET.out];exact LP hcf) (E.out.trans (D.out hk)) (by rw[hl,HST.out];exact HPY.out hp)
  ·intro a' U q hq hcq hk hd h2 h3
   exact HRET.out a' U (by rw[HET.out];exact Og hq hcq) (E.out.trans (D.out hk)) hd h2 h3
end Go.Proofs.YtjjggefmmeminabGreat
