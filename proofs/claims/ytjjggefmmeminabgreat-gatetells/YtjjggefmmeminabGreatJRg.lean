import Derived.Test.YtjjggefmmeminabGreatRgReg
import Derived.Test.YtjjggefmmeminabGreatRmWrong
import Derived.Test.YtjjggefmmeminabGreatRyCalled
import Derived.Deep.CutBlock
set_option maxRecDepth 100000
set_option maxHeartbeats 80000000
namespace Go.Proofs.YtjjggefmmeminabGreat
open Go.RowKit Go.Sort Go.PlainAid
def SZ (s:LServ) (ty key:ByteArray):Option Addr:=if Ds s.nx (Cf s.X ty key)<0 then none else s.xa.map λa=>⟨a.block,a.off+(Ds s.nx (Cf s.X ty key)).toNat*3,none⟩
theorem Mk(s:LServ)(ty key:ByteArray):ER s.xa s.nx s.X ty key= .pointer (SZ s ty key):=by unfold ER SZ;split<;>rfl
theorem Kv{w:World}{s:LServ}{ty key:ByteArray}(h:CZ w s.xa s.nx s.X):(SZ s ty key).isSome=Dk s ty key:=by
 unfold SZ Dk;rcases CE s.nx (Cf s.X ty key) with⟨e,-⟩|⟨k,hk,e,-,-⟩
 ·rw[e];rfl
 ·obtain⟨b,o,ha,-⟩:=h.2 k hk
  rw[e,ha,Ae (by omega)];simp
theorem OQ{w:World}{s:LServ}{ty key:ByteArray}(h:CZ w s.xa s.nx s.X)(hh:Dk s ty key=true):∃b o,SZ s ty key=some ⟨b,o,none⟩/\Iv w b o (CC s ty key):=by
 obtain⟨i,hi,e,et,-,-⟩:=Iz hh;obtain⟨b,o,ha,hx⟩:=h.2 i hi;refine⟨b,o+i*3,?_,by rw[et];exact hx⟩;unfold SZ;rw[e,ha,Ae (by omega),Ax];rfl
theorem KT(la:Option Addr)(n lcap:Nat)(V:Nat->LServ)(p:PPart)(g o:Nat)(fa oa ha:Option Addr)(fc oc hc:Nat)(key:ByteArray)(w:World)(hS:Dc w la n V)(G:PtAt w g o p fa oa ha fc oc hc)(O:PartR n V p) :
  Calls Tryz.prog 20 #[.slice la n lcap,.pointer (some ⟨g,o,none⟩),.string key] w λe w'=>e= .returned (.bool (DY V p key))/\Below w.heap.size w w':=by
 have c3:=G.c3;have hn:p.hs.length<=9223372036854775807:=G.homes.1;rw[<-Ra];have R:=Aa hS;have S:=Aa G.homes;have T:=Aa O.homes;clear hS G O;obtain⟨q,hq⟩:∃q:Nat->Bool,q=λi=>Dk (V (Eg p i).svc.toNat) (Eg p i).type key:=⟨_,rfl⟩;rw[<-hq];have U:=Aa hq;clear hq
 go_enter Tryz.func20,Tryz.ntmps20
 go_wp2_with fail
 go_loopw [14] (λi wr => ∃k:Nat,k<=p.hs.length/\i= .int .i64 k/\Hid (∀j,j<k->q j=false)/\Below w.heap.size w wr) (λi _=>p.hs.length - (intOf i).toNat)
 case atStart=>exact⟨0,Ai _,rfl,(λj H=>absurd H (Ak _)),Aq _ _⟩
 case round =>
  obtain⟨k,hk,rfl,hb,x⟩:=hrel
  by_cases r:k<p.hs.length
  ·obtain⟨b,o',rfl,P,k1,W,-⟩:=(S.out.kept x).2 k r
   obtain⟨s,hs,y⟩:=T.out k r;have z:q k=Dk (V s) (Eg p k).type key:=by rw[U.out];show Dk (V (Eg p k).svc.toNat) _ _=_;rw[hs,Ax]
   have Q:(k:Int)<(p.hs.length:Int):=by omega
   have K:(0:Int)<=(k:Int):=by omega
   rw[hs]at P;generalize I:wr.alloc (Obj.cells #[.int .i64 (s:Int),.string (Eg p k).type,.string (Eg p k).field] 92)=J;have A:Below wr.heap.size wr J:=by rw[<-I];exact BW _ _
   have B:Hid (J.cell? ⟨wr.heap.size,0,none⟩=some (.int .i64 (s:Int))):=Aa (by rw[<-I,Ac _ _ _ _ rfl];rfl);have C:Hid (J.cell? ⟨wr.heap.size,1,none⟩=some (.string (Eg p k).type)):=Aa (by rw[<-I,Ac _ _ _ _ rfl];rfl);have u:Below w.heap.size w J:=x.trans (A.mono x.size);obtain⟨bs,os,L,D⟩:=(R.out.kept u).2 s y;subst L;have l:=Aa D;have v:=Aa u;have M:=Aa z;clear x A u D z
   go_upto_region 4 with fail
   clear I P k1 W;refine Pn (bo:=wr.heap.size) (s:=s) (tp:=SZ (V s) (Eg p k).type key) (by kernel_rfl) rfl rfl rfl y B.out C.out l.out.c2 (λY h1=>?_) ?_
   ·have:=FL (V s).xa (V s).nx (V s).xcap (V s).X (Eg p k).type key Y (l.out.ok.things.kept h1)
    rw[Mk]at this;exact this
   intro d w' E a;rw[Kv l.out.ok.things,<-M.out]at a;have F:Hid (Below w.heap.size w w'):=Aa (v.out.trans (E.mono v.out.size));clear E v l B C;simp only[Cn,Act.put,Au,AD,AE,a];generalize d 18=Z;generalize d 19=aa;generalize d 20=ab;generalize d 21=ac;generalize d 22=ad;generalize d 23=ae;generalize d 24=af;generalize d 25=ag;generalize d 26=ah;generalize d 27=ai
   cases m:q k with
   |true =>
    have c:Hid (Ds p.hs.length q=(k:Int)):=DD r m hb;clear m a
    go_wp2_with fail
    go_ret;exact⟨by rw[c.out,Bi K];rfl,F.out⟩
   |false =>
    have N:Hid (∀j,j<k+1->q j=false):=λj H=>by
     rcases Nat.lt_succ_iff_lt_or_eq.1 H with h|h
     ·exact hb j h
     ·rw[h];exact m
    clear m a
    go_wp2_with fail
    go_roundw
    case rel=>exact⟨k+1,by omega,by go_num,N,F.out⟩
    case measure=>simp[intOf];omega
  ·have c:Hid (Ds p.hs.length q = -1):=Em (λj H=>hb j (by omega))
   go_wp2_with fail
   go_ret;exact⟨by rw[c.out];rfl,x⟩
def Kh (la:Option Addr) (n lcap:Nat) (V:Nat->LServ) (L:List PPart) (pa:Option Addr) (pn pc d:Nat):Prop := ∀(Z:Nat->Prop) (b:Nat->Nat->Value) (g:Nat) (typ key:ByteArray) (a:Option Addr) (cap:Nat) (ps:List (Cg d)) (w:World),
 Dc w la n V->Parts Z w (.slice pa pn pc) L b->pa=some ⟨g,0,none⟩->ps≠[]->¬Ca L.length (DI L) typ<0->cR L.length (DI L) d (Du L typ).fs.length (De (Du L typ)) [] ps=0->Sm d ps->CB w d a ps ->
 Calls Tryz.prog 21 #[.slice la n lcap,.slice pa pn pc,.pointer (some ⟨g,(Fd L typ).toNat*4,none⟩),.string key,.slice a ps.length cap] w λe w'=>(∃va vc,e= .returned (.slice va (D9 V L d (Du L typ) key ps).length vc)/\(D9 V L d (Du L typ) key ps).length<=vc/\Ev w.heap.size d w' va vc (D9 V L d (Du L typ) key ps))/\Below w.heap.size w w'
structure GE (w0:World) (la:Option Addr) (n lcap:Nat) (V:Nat->LServ) (L:List PPart) (pa:Option Addr) (pn pc d:Nat) (aa:Option Addr) (ps:List (Cg d)) (fty:ByteArray) (kd:Int):Prop where
 servs:Dc w0 la n V
 parts:∃Z rv,Parts Z w0 (.slice pa pn pc) L rv
 picks:CB w0 d aa ps
 get:Kh la n lcap V L pa pn pc d
 right:∀nm,¬Ca L.length (DI L) nm<0->PartR n V (Du L nm)
 sm:Sm d ps
 ask:kd≠1->ps≠[]/\¬Ca L.length (DI L) fty<0/\cR L.length (DI L) d (Du L fty).fs.length (De (Du L fty)) [] ps=0
theorem CG.low{b:Nat}{a C w:World}(hB:Below a.heap.size a C)(hk:CG (λk=>k=b) C w)(hb:a.heap.size<=b):Below a.heap.size a w:=by
 have hs:=hB.size;exact hB.trans ⟨hk.os,hk.tape,hk.output,hk.size,λk c=>hk.block k ⟨by omega,by omega⟩⟩
theorem GG{L:List PPart}{g i:Nat}{nm:ByteArray}(h:Fd L nm=(i:Int)):IY L g nm= .pointer (some ⟨g,i*4,none⟩):=by
 unfold IY;rw[h,Ae (by omega),Ax]
theorem FS{L:List PPart}{typ:ByteArray}(a : ¬Ca L.length (DI L) typ<0):∃i:Nat,Fd L typ=(i:Int)/\i<L.length/\Du L typ=Ci L i:=by
 obtain⟨i,hi⟩:∃i:Nat,Fd L typ=(i:Int):=⟨(Fd L typ).toNat,by have : ¬Fd L typ<0:=a;omega⟩;have b:i<L.length:=by
  have h1:=(E4 (p:=λj=>eqs (Ci L j).name typ) a).1;have h2:Ds L.length (λj=>eqs (Ci L j).name typ)=(i:Int):=hi;rw[h2]at h1;simpa using h1
 refine⟨i,hi,b,?_⟩;unfold Du;rw[show Ds L.length (λi=>eqs (Ci L i).name typ)=(i:Int) from hi,Ax]
def EK (V:Nat->LServ) (L:List PPart) (d:Nat) (q:PPart) (ps:List (Cg d)) (K:Nat->ByteArray) (k:Nat):List (List (DH d)):=(((List.range k).map K).filter (DY V q)).map (λkey=>D9 V L d q key ps)
theorem Pd(V:Nat->LServ)(L:List PPart)(d:Nat)(q:PPart)(ps:List (Cg d))(K:Nat->ByteArray):EK V L d q ps K 0 = []:=rfl
theorem RX{V:Nat->LServ}{L:List PPart}{d:Nat}{q:PPart}{ps:List (Cg d)}{K:Nat->ByteArray}{k:Nat}(h:DY V q (K k)=false):EK V L d q ps K (k+1)=EK V L d q ps K k:=by
 unfold EK;rw[AA];simp[h]
theorem Rg{V:Nat->LServ}{L:List PPart}{d:Nat}{q:PPart}{ps:List (Cg d)}{K:Nat->ByteArray}{k:Nat}(h:DY V q (K k)=true):EK V L d q ps K (k+1)=EK V L d q ps K k++[D9 V L d q (K k) ps]:=by
 unfold EK;rw[AA];simp[h]
theorem LE(V:Nat->LServ)(L:List PPart)(d:Nat)(q:PPart)(ps:List (Cg d))(K:Nat->ByteArray)(k:Nat):(EK V L d q ps K k).length<=k:=by
 unfold EK;rw[A6];refine Am (List.length_filter_le _ _) ?_;simp
def Ln (nm:ByteArray) (kd:Int) (tx:ByteArray) (u:Value):Array Value:=#[.string nm,.int .i64 kd,.bool false,.string tx,.slice none 0 0,u]
theorem SRow.more{d sc bg base:Nat}{sa:Option Addr}{w w':World}{g:Value}{sv:Nat->Value}{S:List (List (DH d))}{M:List (DH d)}{nm tx:ByteArray}{kd:Int}(h:SRow base w (.slice sa S.length sc) S sv)(p:w.heap[bg]? = some (.cells (Ln nm kd tx (.slice sa S.length sc)) 56 (0,0)))(s:UH w d M base S.length sv (.slice sa S.length sc) g w')(hb:bg<base)(i:base<=w.heap.size) :
  (∃o,SRow base (w'.setCell ⟨bg,5,none⟩ g) g (S++[M]) o)/\(w'.setCell ⟨bg,5,none⟩ g).heap[bg]? = some (.cells (Ln nm kd tx g) 56 (0,0))/\(∃u v,g= .slice u (S.length+1) v)/\CG (λq=>q=bg\/base<=q) w (w'.setCell ⟨bg,5,none⟩ g):=by
 obtain⟨X,a,c,b,rc,x,r,j,y⟩:=s;have m:bg<w.heap.size:=Ag p;have l:∀q,(Value.slice sa S.length sc).ownBlock=some q->base<=q/\q<w.heap.size:=λq hq=>h.row.lt hq;have z:w'.heap[bg]? = some (.cells (Ln nm kd tx (.slice sa S.length sc)) 56 (0,0)):=by
  rw[j.block bg (Ah m b.size) (λe=>by have:=(l bg e.symm).1;omega),b.block bg m];exact p
 have n:=(h.kept b).app rc x i (λk hk=>(l k hk).2) r j y;refine⟨⟨_,n.move (by simp) λk _ A=>Al _ _ _ _ (by show k≠bg;omega)⟩,Ao _ bg 5 _ 56 _ z,E7 r,⟨j.os.trans b.os,j.tape.trans b.tape,j.output.trans b.output,by simpa using Am b.size j.size,λq hq=>?_⟩⟩;rw[Al _ _ _ _ (λe=>hq.2 (.inl e)),j.block q (Ah hq.1 b.size) (λe=>hq.2 (.inr (l q e.symm).1)),b.block q hq.1]
theorem Qj{Q:Exit->Act->World->Prop}{la pa aa:Option Addr}{n lcap pn pc d ac bk bf bg:Nat}{V:Nat->LServ}{L:List PPart}{ps:List (Cg d)}{fty nm tx:ByteArray}{kd:Int}{y C:World}{ka:Option Addr}{nk kcap:Nat}{K:Nat->ByteArray}(F:Hid (GE y la n lcap V L pa pn pc d aa ps fty kd))(HB:Hid (Below y.heap.size y C))(hbg:y.heap.size<=bg)(HCF:Hid (C.cell? ⟨bf,2,none⟩=some (.string fty)))(HCK:Hid (C.cell? ⟨bk,2,none⟩=some (.slice aa ps.length ac)))(hfg:bf≠bg)(hkg:bk≠bg)(HKY:Hid (CF y ka nk K))(hnk:nk<=20)(hw9:nk≠0->kd≠1)(HBG:Hid (C.heap[bg]? = some (.cells (Ln nm kd tx (.slice none 0 0)) 56 (0,0)))){v2 v3 v4 v5 v6 v7 v8 v9 v10 v11 v12 v14 v16 v18 v19 v20 v21 v22 v23 v24 v25 v26 v27 v28 v29 v30 v31 v32 v33 v34 v35 v36 v37 v38 v39 v40 v41 v42 v43 v44 v45 v46 v47 v48 v49 v50 v51 v52 v53 v54 v55 v56 v57 v58 v59 v60 v61 v62 v63 v64 v65 v66 v67 v68 v69 v70 v71 v72 v73 v74 v75 v76 v77 v78 v79 v80 v81 v82 v83 v84 v85 v86 v87 v88 v89 v90 v91 v92 v96 v97 v98 v99 v100 v101 v102 v103 v104 v105 v106 v107 v108 v109 v110 v111 v112 v113 v114 v115 v116 v117 v118 v119 G H I J N O P R T U W X Y ab ad ae af ag ah ai aj:Value}(ak:Hid (∀(u22 u23 u95 u96 u97 u98 u99 u100 u101 u102 u103 u104 u105 u106 u107 u108 u109 u110 u111 u112 u113 u114 u115 u116 u117 u118 u119:Value) (w':World) (sa:Option Addr) (sc:Nat) (sv:Nat->Value),CG (λq=>q=bg) C w'->w'.heap[bg]? = some (.cells (Ln nm kd tx (.slice sa (EK V L d (Du L fty) ps K nk).length sc)) 56 (0,0))->SRow C.heap.size w' (.slice sa (EK V L d (Du L fty) ps K nk).length sc) (EK V L d (Du L fty) ps K nk) sv->Q .normal ⟨#[.slice la n lcap,.slice pa pn pc,v2,v3,v4,v5,v6,v7,v8,v9,v10,v11,v12,.pointer (some ⟨bk,0,none⟩),v14,.pointer (some ⟨bf,0,none⟩),v16,.pointer (some ⟨bg,0,none⟩),v18,v19,v20,v21,u22,u23,v24,v25,v26,v27,v28,v29,v30,v31,v32,v33,v34,v35,v36,v37,v38,v39,v40,v41,v42,v43,v44,v45,v46,v47,v48,v49,v50,v51,v52,v53,v54,v55,v56,v57,v58,v59,v60,v61,v62,v63,v64,v65,v66,v67,v68,v69,v70,v71,v72,v73,v74,v75,v76,v77,v78,v79,v80,v81,v82,v83,v84,v85,v86,v87,v88,v89,v90,v91,v92,.slice ka nk kcap,.int .i64 (nk:Int),u95,u96,u97,u98,u99,u100,u101,u102,u103,u104,u105,u106,u107,u108,u109,u110,u111,u112,u113,u114,u115,u116,u117,u118,u119,G,H,I,J,N,O,P,R,T,U,W,X,Y,ab,ad,ae,af,ag,ah,ai,aj],[]⟩ w')) :
  Code.wp Tryz.prog (GA Tryz.f21 (DW 4)) Q ⟨#[.slice la n lcap,.slice pa pn pc,v2,v3,v4,v5,v6,v7,v8,v9,v10,v11,v12,.pointer (some ⟨bk,0,none⟩),v14,.pointer (some ⟨bf,0,none⟩),v16,.pointer (some ⟨bg,0,none⟩),v18,v19,v20,v21,v22,v23,v24,v25,v26,v27,v28,v29,v30,v31,v32,v33,v34,v35,v36,v37,v38,v39,v40,v41,v42,v43,v44,v45,v46,v47,v48,v49,v50,v51,v52,v53,v54,v55,v56,v57,v58,v59,v60,v61,v62,v63,v64,v65,v66,v67,v68,v69,v70,v71,v72,v73,v74,v75,v76,v77,v78,v79,v80,v81,v82,v83,v84,v85,v86,v87,v88,v89,v90,v91,v92,.slice ka nk kcap,.int .i64 (nk:Int),.int .i64 0,v96,v97,v98,v99,v100,v101,v102,v103,v104,v105,v106,v107,v108,v109,v110,v111,v112,v113,v114,v115,v116,v117,v118,v119,G,H,I,J,N,O,P,R,T,U,W,X,Y,ab,ad,ae,af,ag,ah,ai,aj],[]⟩ C:=by
 refine Iu ?_
 conv=>arg 2;whnf
 dsimp only;obtain⟨i0,hi0,hz0,hz1,hz2⟩:=Cd Tryz.info26;obtain⟨S,hS⟩:∃S,S=EK V L d (Du L fty) ps K:=⟨_,rfl⟩;have p:Hid (∀k,S k=EK V L d (Du L fty) ps K k):=Aa λk=>by rw[hS]
 rw[<-hS]at ak;clear hS;have hCs:bg<C.heap.size:=Ag HBG.out
 go_wp2_with fail
 go_loopw [95] (λi wr => ∃k:Nat,k<=nk/\i= .int .i64 k/\CG (λq=>q=bg) C wr/\∃sa sc sv,wr.heap[bg]? = some (.cells (Ln nm kd tx (.slice sa (S k).length sc)) 56 (0,0))/\SRow C.heap.size wr (.slice sa (S k).length sc) (S k) sv) (λi _=>nk - (intOf i).toNat)
 case atStart =>
  have h0:S 0 = []:=by rw[p.out,Pd]
  exact⟨0,Ai _,rfl,CG.refl _ _,none,0,λ_=>undef,by rw[h0];exact HBG.out,by rw[h0];exact SRow.nil _ _ _ _⟩
 case round =>
  obtain⟨k,hk,rfl,hw,sa,sc,sv,hbx,hSR⟩:=hrel;have HW:=Aa hw;have z:=Aa hbx;have aq:=Aa hSR;clear hw hbx hSR
  by_cases hlt:k<nk
  ·have j:Below y.heap.size y wr:=HW.out.low HB.out hbg
   obtain⟨hne,A,hcR⟩:=F.out.ask (hw9 (by omega));obtain⟨Z,rv,B⟩:=F.out.parts;obtain⟨i,hi,hil,D⟩:=FS A;obtain⟨kb,ko,hka,ck,-⟩:=(HKY.out.kept j).2 k hlt;subst hka;obtain⟨g,cap',a1,c1,a2,c2,a3,c3,hpv,-,-,-,hpt⟩:=(B.kept' j).pt hil;cases hpv;have hlt':(k:Int)<(nk:Int):=by omega
   have hk0:(0:Int)<=(k:Int):=by omega
   have cf:wr.cell? ⟨bf,2,none⟩=some (.string fty):=HW.out.cell HCF.out hfg;have al:Hid (wr.cell? ⟨bk,2,none⟩=some (.slice aa ps.length ac)):=Aa (HW.out.cell HCK.out hkg);have ar:=F.out.right fty A;rw[D]at ar;have HPR:=Aa ar;have HPT:=Aa hpt;have HBr:=Aa j;have zzq:=Aa D;have am:Hid (∀l,Below wr.heap.size wr l->Calls Tryz.prog 21 #[.slice la n lcap,.slice (some ⟨g,0,none⟩) L.length pc,.pointer (some ⟨g,i*4,none⟩),.string (K k),.slice aa ps.length ac] l λe w'=>(∃a c,e= .returned (.slice a (D9 V L d (Ci L i) (K k) ps).length c)/\(D9 V L d (Ci L i) (K k) ps).length<=c/\EA (λq=>q<l.heap.size) w' (λw=>Dg w d a (D9 V L d (Ci L i) (K k) ps)))/\Below l.heap.size l w'):=Aa λl h1=>by
    have au:Below y.heap.size y l:=j.trans (h1.mono j.size);have:=F.out.get Z rv g fty (K k) aa ac ps l (F.out.servs.kept au) (B.kept' au) rfl hne A hcR F.out.sm (F.out.picks.kept au);rw[hi,Ax,D]at this;exact this.mono λe w' ⟨⟨va,vc,e1,e2,e3⟩,hb⟩=>⟨⟨va,vc,e1,e2,e3.free⟩,hb⟩
   have HSV:Hid (∀l,Below wr.heap.size wr l->Dc l la n V):=Aa λl h1=>F.out.servs.kept (j.trans (h1.mono j.size));have u:=Gh Z (some ⟨g,0,none⟩) L.length pc L rv fty wr (B.kept' j);have hlp:0<L.length:=by omega
   have HMF:=Aa hi;clear j hne A hcR B D hpt ar hi
   go_wp2_with fail
   refine u.mono ?_;clear u;rintro e l ⟨⟨g',hg',rfl⟩,E⟩;cases hg' hlp;rw[GG HMF.out];have av:=Aa E;have u:=KT la n lcap V (Ci L i) g (i*4) a1 a2 a3 c1 c2 c3 (K k) l (HSV.out l E) (HPT.out.kept E) HPR.out;clear E hg' ck cf
   go_wp2_with fail
   refine u.mono ?_;clear u;rintro e w2 ⟨rfl,hw2⟩;have b:Below wr.heap.size wr w2:=av.out.trans (hw2.mono av.out.size);have hkx:CG (λq=>q=bg) C w2:=HW.out.trans (CG.of b) λ_ _ h=>h;have r:=Aa hkx;have v:=Aa b;have m:=Aa ((b.block _ (Ag z.out)).trans z.out);have o:=Aa (aq.out.kept b);have an:=Aa (BR b al.out);clear hw2 b hkx av aq z al HSV HPT HMF
   cases ht:DY V (Ci L i) (K k) with
   |false =>
    have x:Hid (S (k+1)=S k):=Aa (by rw[p.out,p.out,RX (by rw[zzq.out];exact ht)]);clear ht
    go_wp2_with fail
    go_roundw
    case rel=>exact⟨k+1,by omega,by go_num,r.out,sa,sc,sv,by rw[x.out];exact m.out,by rw[x.out];exact o.out⟩
    case measure=>simp[intOf];omega
   |true =>
    have x:Hid (S (k+1)=S k++[D9 V L d (Ci L i) (K k) ps]):=Aa (by rw[p.out,p.out,Rg (by rw[zzq.out];exact ht),zzq.out]);have hSl:(S k).length<=60:=by rw[p.out];have:=LE V L d (Du L fty) ps K k;omega
    clear ht
    go_upto_region 22 with fail
    refine TK (d:=d) (bg:=bg) (bk:=bk) (base:=C.heap.size) (M:=D9 V L d (Ci L i) (K k) ps) (i0:=i0) hi0 hz0 hz1 hz2 (by kernel_rfl) hSl r.out.size rfl rfl rfl rfl rfl rfl m.out an.out o.out.row (λw3 h3=>am.out w3 (v.out.trans (h3.mono v.out.size))) ?_;intro s w' v' hr;obtain⟨⟨sv',hS'⟩,ao,⟨a',c',rfl⟩,ap⟩:=o.out.more m.out hr hCs r.out.size;have HK':Hid (CG (λq=>q=bg) C (w'.setCell ⟨bg,5,none⟩ (.slice a' ((S k).length+1) c'))):=Aa (Keep.trans r.out (Keep.mono ap λq hq=>⟨Ah hq.1 r.out.size,λh=>h.elim hq.2 (λh9=>by have:=hq.1;omega)⟩));have aw:(S (k+1)).length=(S k).length+1:=by rw[x.out];simp
    have HS':Hid (SRow C.heap.size (w'.setCell ⟨bg,5,none⟩ (.slice a' ((S k).length+1) c')) (.slice a' (S (k+1)).length c') (S (k+1)) sv'):=Aa (by rw[aw,x.out];exact hS');have HB':Hid ((w'.setCell ⟨bg,5,none⟩ (.slice a' ((S k).length+1) c')).heap[bg]? = some (.cells (Ln nm kd tx (.slice a' (S (k+1)).length c')) 56 (0,0))):=Aa (by rw[aw];exact ao);clear hr hS' ao ap aw r m o an v am;simp only[Cn,Act.put,Au,AD,AE];generalize s 107=t107;generalize s 108=t108;generalize s 109=t109;generalize s 110=t110;generalize s 111=t111;generalize s 112=t112;generalize s 113=t113;generalize s 114=t114;generalize s 115=t115;generalize s 116=t116;generalize s 117=t117;generalize s 118=t118
    go_wp2_with fail
    go_roundw
    case rel=>exact⟨k+1,by omega,by go_num,HK'.out,a',c',sv',HB'.out,HS'.out⟩
    case measure=>simp[intOf];omega
  ·have hkn:k=nk:=by omega
   subst hkn
   go_wp2_with fail
   exact ak.out _ _ _ _ _ _ _ _ _ _ _ _ _ _ _ _ _ _ _ _ _ _ _ _ _ _ _ _ _ _ _ HW.out z.out aq.out
theorem OP{Q:Exit->Act->World->Prop}{la pa aa:Option Addr}{n lcap pn pc d ac bk bf bg:Nat}{V:Nat->LServ}{L:List PPart}{ps:List (Cg d)}{fty nm:ByteArray}{kd:Int}{v C:World}{va:Option Addr}{e w m bo:Nat}{X:Nat->LVal}{c:ByteArray}{fl:LField}(HE:Hid (GE v la n lcap V L pa pn pc d aa ps fty kd))(HB:Hid (Below v.heap.size v C))(aA:v.heap.size<=bg)(HCF:Hid (C.cell? ⟨bf,2,none⟩=some (.string fty)))(HCK:Hid (C.cell? ⟨bk,2,none⟩=some (.slice aa ps.length ac)))(hfg:bf≠bg)(hkg:bk≠bg)(HV:Hid (Ec v va e X))(hm:m<e)(HU:Hid (∀m',m' < e->(eqs (X m').field c=true↔m'=m)))(aB:Hid (fl.kind=kd/\ValR fl (X m)))(HCO:Hid (C.cell? ⟨bo,2,none⟩=some (.string c)))(hog:bo≠bg)(HBG:Hid (C.heap[bg]? = some (.cells (Ln nm kd ⟨#[]⟩ (.slice none 0 0)) 56 (0,0)))){v2 v3 v4 v5 v6 v7 v8 v9 v10 v11 v12 v14 v18 v19 v20 v21 v22 v23 v24 v25 v26 v27 v28 v29 v30 v31 v32 v33 v34 v35 v36 v37 v38 v39 v40 v41 v42 v43 v44 v45 v46 v47 v48 v49 v50 v51 v52 v53 v54 v55 v56 v57 v58 v59 v60 v61 v62 v63 v64 v65 v66 v67 v68 v69 v70 v71 v72 v73 v74 v75 v76 v77 v81 v82 v83 v84 v85 v86 v87 v88 v89 v90 v91 v92 v93 v94 v95 v96 v97 v98 v99 v100 v101 v102 v103 v104 v105 v106 v107 v108 v109 v110 v111 v112 v113 v114 v115 v116 v117 v118 v119 v120 x y z A B D E F G H I J M N O P R T U W:Value}(Z:Hid (∀(u20 u22 u23 u80 u81 u82 u83 u84 u85 u86 u87 u88 u89 u90 u91 u92 u93 u94 u95 u96 u97 u98 u99 ab ad ae af ag ah ai aj ak al am an ao ap aq ar zzq au av aw u120:Value) (w':World) (sa:Option Addr) (sc:Nat) (sv:Nat->Value),CG (λq=>q=bg) C w'->w'.heap[bg]? = some (.cells (Ln nm kd (X m).text (.slice sa (EK V L d (Du L fty) ps (X m).K (X m).nk).length sc)) 56 (0,0))->SRow C.heap.size w' (.slice sa (EK V L d (Du L fty) ps (X m).K (X m).nk).length sc) (EK V L d (Du L fty) ps (X m).K (X m).nk) sv->Q .normal ⟨#[.slice la n lcap,.slice pa pn pc,v2,v3,v4,v5,v6,v7,v8,v9,v10,v11,v12,.pointer (some ⟨bk,0,none⟩),v14,.pointer (some ⟨bf,0,none⟩),.pointer (some ⟨bo,0,none⟩),.pointer (some ⟨bg,0,none⟩),v18,v19,u20,v21,u22,u23,v24,v25,v26,v27,v28,v29,v30,v31,v32,v33,v34,v35,v36,v37,v38,v39,v40,v41,v42,v43,v44,v45,v46,v47,v48,v49,v50,v51,v52,v53,v54,v55,v56,v57,v58,v59,v60,v61,v62,v63,v64,v65,v66,v67,v68,v69,v70,v71,v72,v73,v74,v75,v76,v77,.slice va e w,.int .i64 (e:Int),u80,u81,u82,u83,u84,u85,u86,u87,u88,u89,u90,u91,u92,u93,u94,u95,u96,u97,u98,u99,ab,ad,ae,af,ag,ah,ai,aj,ak,al,am,an,ao,ap,aq,ar,zzq,au,av,aw,u120,x,y,z,A,B,D,E,F,G,H,I,J,M,N,O,P,R,T,U,W],[]⟩ w')) :
  Code.wp Tryz.prog (GA Tryz.f21 (DW 2)) Q ⟨#[.slice la n lcap,.slice pa pn pc,v2,v3,v4,v5,v6,v7,v8,v9,v10,v11,v12,.pointer (some ⟨bk,0,none⟩),v14,.pointer (some ⟨bf,0,none⟩),.pointer (some ⟨bo,0,none⟩),.pointer (some ⟨bg,0,none⟩),v18,v19,v20,v21,v22,v23,v24,v25,v26,v27,v28,v29,v30,v31,v32,v33,v34,v35,v36,v37,v38,v39,v40,v41,v42,v43,v44,v45,v46,v47,v48,v49,v50,v51,v52,v53,v54,v55,v56,v57,v58,v59,v60,v61,v62,v63,v64,v65,v66,v67,v68,v69,v70,v71,v72,v73,v74,v75,v76,v77,.slice va e w,.int .i64 (e:Int),.int .i64 0,v81,v82,v83,v84,v85,v86,v87,v88,v89,v90,v91,v92,v93,v94,v95,v96,v97,v98,v99,v100,v101,v102,v103,v104,v105,v106,v107,v108,v109,v110,v111,v112,v113,v114,v115,v116,v117,v118,v119,v120,x,y,z,A,B,D,E,F,G,H,I,J,M,N,O,P,R,T,U,W],[]⟩ C:=by
 refine Iu ?_
 conv=>arg 2;whnf
 dsimp only;obtain⟨S,hS⟩:∃S,S=EK V L d (Du L fty) ps (X m).K (X m).nk:=⟨_,rfl⟩;rw[<-hS]at Z;have HSK:=Aa hS;clear hS;have hCs:bg<C.heap.size:=Ag HBG.out;have hnv:e<=9223372036854775807:=HV.out.1
 go_wp2_with fail
 go_loopw [80] (λi wr => ∃j:Nat,j<=e/\i= .int .i64 j/\CG (λq=>q=bg) C wr/\((j<=m/\wr.heap[bg]? = some (.cells (Ln nm kd ⟨#[]⟩ (.slice none 0 0)) 56 (0,0)))\/(m<j/\∃sa sc sv,wr.heap[bg]? = some (.cells (Ln nm kd (X m).text (.slice sa (S).length sc)) 56 (0,0))/\SRow C.heap.size wr (.slice sa S.length sc) S sv))) (λi _=>e - (intOf i).toNat)
 case atStart=>exact⟨0,Ai _,rfl,CG.refl _ _,.inl ⟨Ai _,HBG.out⟩⟩
 case round =>
  obtain⟨j,hj,rfl,hw,hst⟩:=hrel;have HW:=Aa hw;have g:=Aa hst;clear hw hst
  by_cases aC:j<e
  ·have hBr:Below v.heap.size v wr:=HW.out.low HB.out aA
   obtain⟨b,o,hva,c0,c1,c2,-,-,-,-⟩:=(HV.out.kept hBr).2 j aC;subst hva;have hlt':(j:Int)<(e:Int):=by omega
   have hj0:(0:Int)<=(j:Int):=by omega
   have aD:bg<wr.heap.size:=Ah hCs HW.out.size;generalize hX:wr.alloc (Obj.cells #[.string (X j).field,.string (X j).text,.slice (X j).ka (X j).nk (X j).kcap] 120)=k;have p:Below wr.heap.size wr k:=by rw[<-hX];exact BW _ _
   have x0:k.cell? ⟨wr.heap.size,0,none⟩=some (.string (X j).field):=by rw[<-hX,Ac _ _ _ _ rfl];rfl
   have x1:k.cell? ⟨wr.heap.size,1,none⟩=some (.string (X j).text):=by rw[<-hX,Ac _ _ _ _ rfl];rfl
   have aE:Hid (k.cell? ⟨wr.heap.size,2,none⟩=some (.slice (X j).ka (X j).nk (X j).kcap)):=Aa (by rw[<-hX,Ac _ _ _ _ rfl];rfl);have o2:k.cell? ⟨bo,2,none⟩=some (.string c):=BR p (HW.out.cell HCO.out hog);have aF:Hid (CG (λq=>q=bg) C k):=Aa (HW.out.trans (CG.of p) λ_ _ h=>h);have l:=Aa p;have hu:=HU.out j aC;have hobl:wr.heap.size<=k.heap.size:=p.size;clear hBr p
   by_cases aG:j=m
   ·have he:eqs (X j).field c=true:=hu.2 aG
    have h1:((X j).field.toList==c.toList)=true:=by rw[CT];exact he
    have h2:((X j).field.toList != c.toList)=false:=by unfold bne;rw[h1];rfl
    have hb0:wr.heap[bg]? = some (.cells (Ln nm kd ⟨#[]⟩ (.slice none 0 0)) 56 (0,0)):=by
     rcases g.out with h|h
     ·exact h.2
     ·have:=h.1;omega
    have u:=(l.out.block _ aD).trans hb0;have g3:k.cell? ⟨bg,3,none⟩=some (.string ⟨#[]⟩):=by simp[World.cell?,u,Ln]
    have z3:k.frozen? ⟨bg,3,none⟩=false:=by simp[World.frozen?,u]
    have HB1:=Aa u;clear hu he hb0 u g;subst aG
    go_upto_region 17 with fail
    clear hX c0 c1 c2 x0 x1 o2 g3 z3;generalize hY:k.setCell ⟨bg,3,none⟩ (.string (X j).text)=Y;have y2:Y.cell? ⟨wr.heap.size,2,none⟩=some (.slice (X j).ka (X j).nk (X j).kcap):=by
     rw[<-hY,Aw (Al _ _ _ _ (by show wr.heap.size≠bg;omega))];exact aE.out
    have HBY:Hid (Y.heap[bg]? = some (.cells (Ln nm kd (X j).text (.slice none 0 0)) 56 (0,0))):=Aa (by rw[<-hY];exact Ao _ bg 3 _ 56 _ HB1.out);have a:Hid (CG (λq=>q=bg) C Y):=Aa (by rw[<-hY];exact Keep.trans aF.out (Keep.set _ _ _ λh=>h.2 rfl));clear hY;have HBl:=Aa (a.out.low HB.out aA);have hk9:(X j).nk≠0->kd≠1:=λh0 h1=>h0 (aB.out.2.word (by rw[aB.out.1];exact h1));have hfew:=aB.out.2.few;have ax:Hid (CF v (X j).ka (X j).nk (X j).K):=Aa (by
     obtain⟨_,_,_,_,_,_,_,_,_,hk⟩:=HV.out.2 j aC;exact hk)
    have ay:=Aa (a.out.cell HCF.out hfg);have az:=Aa (a.out.cell HCK.out hkg);clear aE HB1 aF l
    go_upto_block 4 with fail
    refine Qj (K:=(X j).K) HE HBl aA ay az hfg hkg ax hfew hk9 HBY (Aa ?_);intro u22 u23 u95 u96 u97 u98 u99 ab ad ae af ag ah ai aj ak al am an ao ap aq ar zzq au av aw w' sa sc sv hk' r s;rw[<-HSK.out]at r s;have HK':Hid (CG (λq=>q=bg) C w'):=Aa (a.out.trans hk' λ_ _ h=>h);have HB':=Aa r;have HS':=Aa (s.base a.out.size);clear hk' r s a HBl ax ay az HBY y2;rename_i Kx hKx;refine hKx _ _ ?_;clear hKx
    go_wp2_with fail
    go_roundw
    case rel=>exact⟨j+1,by omega,by go_num,HK'.out,.inr ⟨by omega,sa,sc,sv,HB'.out,HS'.out⟩⟩
    case measure=>simp[intOf];omega
   ·have he:eqs (X j).field c=false:=by
     rw[Bool.eq_false_iff];exact λh=>aG (hu.1 h)
    have h1:((X j).field.toList==c.toList)=false:=by rw[CT];exact he
    have h2:((X j).field.toList != c.toList)=true:=by unfold bne;rw[h1];rfl
    have HN:Hid ((j+1<=m/\k.heap[bg]? = some (.cells (Ln nm kd ⟨#[]⟩ (.slice none 0 0)) 56 (0,0)))\/(m<j+1/\∃sa sc sv,k.heap[bg]? = some (.cells (Ln nm kd (X m).text (.slice sa (S).length sc)) 56 (0,0))/\SRow C.heap.size k (.slice sa S.length sc) S sv)):=Aa (by
     rcases g.out with⟨h3,h4⟩|⟨h3,sa,sc,sv,h4,h5⟩
     ·exact .inl ⟨by omega,(l.out.block _ aD).trans h4⟩
     ·exact .inr ⟨by omega,sa,sc,sv,(l.out.block _ aD).trans h4,h5.kept l.out⟩)
    clear hu he g aE l
    go_wp2_with fail
    clear hX
    go_roundw
    case rel=>exact⟨j+1,by omega,by go_num,aF.out,HN.out⟩
    case measure=>simp[intOf];omega
  ·have hjn:j=e:=by omega
   subst hjn;obtain⟨sa,sc,sv,r,s⟩:∃sa sc sv,wr.heap[bg]? = some (.cells (Ln nm kd (X m).text (.slice sa (S).length sc)) 56 (0,0))/\SRow C.heap.size wr (.slice sa S.length sc) S sv:=by
    rcases g.out with h|h
    ·have:=h.1;omega
    ·exact h.2
   clear g
   go_wp2_with fail
   exact Z.out _ _ _ _ _ _ _ _ _ _ _ _ _ _ _ _ _ _ _ _ _ _ _ _ _ _ _ _ _ _ _ _ _ _ _ _ _ _ _ _ _ _ _ _ _ _ _ _ HW.out r s
def JO {d:Nat} (nm:ByteArray) (kd:Int) (tx:ByteArray) (S:List (List (DH d))):DH (d+1):=if kd=1 then EN nm kd false tx [] [] else NM nm kd S
theorem SM{Q:Exit->Act->World->Prop}{bf bg N1 sc d:Nat}{nm tx:ByteArray}{kd:Int}{C:World}{sa:Option Addr}{sv:Nat->Value}{S:List (List (DH d))}(j:Hid (C.cell? ⟨bf,1,none⟩=some (.int .i64 kd)))(l:Hid (C.heap[bg]? = some (.cells (Ln nm kd tx (.slice sa (S).length sc)) 56 (0,0))))(X:Hid (SRow N1 C (.slice sa S.length sc) S sv))(hb:bg<N1)(b5:S.length<=20)(b:kd≠1->tx=⟨#[]⟩)(m:kd=1->S = []){v0 v1 v2 v3 v4 v5 v6 v7 v8 v9 Y Z aa ab ac ad ae af ag ah ai aj ak al am an ao ap aq ar zzq au av aw ax ay az aA aB aC aD aE aF aG aH aI aJ aK aL aM aN aO aP aQ aR aS aT aU aV aW aX aY aZ a0 a1 a2 a3 a4 a5 a6 a7 a8 a9 ba bb bc bd be bh bi bj bk bl bm bn bo bp bq br bs bt bu bv bw bx bz bA bB o p r s u v w x z B D E F G H I J K L M N bC bD bE bF bG bH bI bJ bK bL bM bN bO bP O P R T U V:Value}(c:Hid (∀(bQ bR bS bT bU bV bW bX bY bZ b0 b1 b2 b3:Value) (w':World) (A:Option Addr) (n:Nat) (A2:Option Addr) (C2:Nat),CG (λq=>q=bg) C w'->w'.heap[bg]? = some (.cells (GS (JO nm kd tx S) A n A2 C2) 56 (0,0))->GotV (λk=>k<N1) w' (JO nm kd tx S) A n A2 C2->Q .normal ⟨#[v0,v1,v2,v3,v4,v5,v6,v7,v8,v9,Y,Z,aa,ab,ac,.pointer (some ⟨bf,0,none⟩),ad,.pointer (some ⟨bg,0,none⟩),ae,af,ag,ah,ai,aj,ak,al,am,an,ao,ap,aq,ar,zzq,au,av,aw,ax,ay,az,aA,aB,aC,aD,aE,aF,aG,aH,aI,aJ,aK,aL,aM,aN,aO,aP,aQ,aR,aS,aT,aU,aV,aW,aX,aY,aZ,a0,a1,a2,a3,a4,a5,a6,a7,a8,a9,ba,bb,bc,bd,be,bh,bi,bj,bk,bl,bm,bn,bo,bp,bq,br,bs,bt,bu,bv,bw,bx,bz,bA,bB,o,p,r,s,u,v,w,x,z,B,D,E,F,G,H,I,J,K,L,M,N,bQ,bR,bS,bT,bU,bV,bW,bX,bY,bZ,b0,b1,b2,b3,O,P,R,T,U,V],[]⟩ w')) :
  Code.wp Tryz.prog (GA Tryz.f21 (Ie 25)) Q ⟨#[v0,v1,v2,v3,v4,v5,v6,v7,v8,v9,Y,Z,aa,ab,ac,.pointer (some ⟨bf,0,none⟩),ad,.pointer (some ⟨bg,0,none⟩),ae,af,ag,ah,ai,aj,ak,al,am,an,ao,ap,aq,ar,zzq,au,av,aw,ax,ay,az,aA,aB,aC,aD,aE,aF,aG,aH,aI,aJ,aK,aL,aM,aN,aO,aP,aQ,aR,aS,aT,aU,aV,aW,aX,aY,aZ,a0,a1,a2,a3,a4,a5,a6,a7,a8,a9,ba,bb,bc,bd,be,bh,bi,bj,bk,bl,bm,bn,bo,bp,bq,br,bs,bt,bu,bv,bw,bx,bz,bA,bB,o,p,r,s,u,v,w,x,z,B,D,E,F,G,H,I,J,K,L,M,N,bC,bD,bE,bF,bG,bH,bI,bJ,bK,bL,bM,bN,bO,bP,O,P,R,T,U,V],[]⟩ C:=by
 refine Iu ?_
 conv=>arg 2;whnf
 dsimp only;have cf:=j.out;have a:=l.out
 by_cases h2:kd=2
 ·subst h2
  have b4:=b (by decide);subst b4;have g2:C.cell? ⟨bg,2,none⟩=some (.bool false):=by simp[World.cell?,a,Ln]
  have g4:C.cell? ⟨bg,4,none⟩=some (.slice none 0 0):=by simp[World.cell?,a,Ln]
  have g5:C.cell? ⟨bg,5,none⟩=some (.slice sa S.length sc):=by simp[World.cell?,a,Ln]
  have z2:C.frozen? ⟨bg,2,none⟩=false:=by simp[World.frozen?,a]
  have z4:C.frozen? ⟨bg,4,none⟩=false:=by simp[World.frozen?,a]
  have z5:C.frozen? ⟨bg,5,none⟩=false:=by simp[World.frozen?,a]
  by_cases h0:0<S.length
  ·obtain⟨g,cap,A,n,hv,d0,hc,hf⟩:=X.out.first h0
   cases hv;have hl0:(0:Int)<(S.length:Int):=by omega
   have hl1:((S.length:Int)==0)=false:=by rw[Bc];omega
   have hr:JO nm 2 ⟨#[]⟩ S=EN nm 2 false ⟨#[]⟩ (FG S 0) []:=by
    cases S with
    |nil=>simp at h0
    |cons y S=>rfl
   have i:Hid (CG (λq=>q=bg) C ((C.setCell ⟨bg,4,none⟩ (.slice A (FG S 0).length n)).setCell ⟨bg,5,none⟩ (.slice none 0 0))/\((C.setCell ⟨bg,4,none⟩ (.slice A (FG S 0).length n)).setCell ⟨bg,5,none⟩ (.slice none 0 0)).heap[bg]? = some (.cells (GS (JO nm 2 ⟨#[]⟩ S) A n none 0) 56 (0,0))/\GotV (λk=>k<N1) ((C.setCell ⟨bg,4,none⟩ (.slice A (FG S 0).length n)).setCell ⟨bg,5,none⟩ (.slice none 0 0)) (JO nm 2 ⟨#[]⟩ S) A n none 0):=Aa (by
    rw[hr];refine⟨Keep.trans (Keep.set _ _ _ λh=>h.2 rfl) (Keep.set _ _ _ λh=>h.2 rfl),Ao _ bg 5 _ 56 _ (Ao _ bg 4 _ 56 _ a),hc,Aj _,?_,Fg⟩;exact hf.step (by simp) (λk _ hk=>by
     have : ¬k<N1:=hk;rw[Al _ _ _ _ (by show k≠bg;omega),Al _ _ _ _ (by show k≠bg;omega)]) (λ_ _ h=>h))
   clear hc hf hr b m X l j a
   go_wp2_with fail
   exact c.out _ _ _ _ _ _ _ _ _ _ _ _ _ _ _ A n none 0 i.out.1 i.out.2.1 i.out.2.2
  ·have W:S = []:=AC (by omega)
   subst W;have i:Hid (CG (λq=>q=bg) C (C.setCell ⟨bg,2,none⟩ (.bool true))/\(C.setCell ⟨bg,2,none⟩ (.bool true)).heap[bg]? = some (.cells (GS (JO (d:=d) nm 2 ⟨#[]⟩ []) none 0 sa sc) 56 (0,0))/\GotV (λk=>k<N1) (C.setCell ⟨bg,2,none⟩ (.bool true)) (JO (d:=d) nm 2 ⟨#[]⟩ []) none 0 sa sc):=Aa
    ⟨Keep.set _ _ _ λh=>h.2 rfl,Ao _ bg 2 _ 56 _ a,Ai _,Ai _,Fi,Fg⟩
   clear b m X l j a h0 b5
   go_wp2_with fail
   exact c.out _ _ _ _ _ _ _ _ _ _ _ _ _ _ _ none 0 sa sc i.out.1 i.out.2.1 i.out.2.2
 ·have hk2:(kd==2)=false:=by simpa using h2
  obtain⟨a',c',e,hc,hf⟩:=X.out.out (by unfold maxLen;omega);cases e;have i:Hid (C.heap[bg]? = some (.cells (GS (JO nm kd tx S) none 0 sa sc) 56 (0,0))/\GotV (λk=>k<N1) C (JO nm kd tx S) none 0 sa sc):=Aa (by
   by_cases h1:kd=1
   ·have W:=m h1
    subst W;unfold JO;rw[Af h1];exact⟨a,Ai _,Ai _,Fi,Fg⟩
   ·have ht:=b h1
    subst ht;unfold JO NM;rw[Ae h1,Ae h2];exact⟨a,Ai _,hc,Fi,hf⟩)
  clear hc hf b m X l j a h2
  go_wp2_with fail
  exact c.out _ _ _ _ _ _ _ _ _ _ _ _ _ _ _ none 0 sa sc (CG.refl _ _) i.out.1 i.out.2
theorem UP{Q:Exit->Act->World->Prop}{bg N0 N1 d vc a C2:Nat}{va A A2:Option Addr}{S:List (DH (d+1))}{av sv:Nat->Value}{gg:DH (d+1)}{C:World}(Z:Hid (C.heap[bg]? = some (.cells (GS gg A a A2 C2) 56 (0,0))))(HG:Hid (GRow N0 C (.slice va S.length vc) S av sv))(HV:Hid (GotV (λk=>k<N1) C gg A a A2 C2))(hN:N0<=N1)(aa:Hid (∀q,(Value.slice va S.length vc).ownBlock=some q->q<N1))(hC:N0<=C.heap.size)(hSl:S.length<=60){v0 v1 v2 v3 v4 v5 v6 v7 v8 v9 ab ac ad ae af ag ah ai aj ak al am an ao ap aq ar zzq au aw ax ay az aA aB aC aD aE aF aG aH aI aJ aK aL aM aN aO aP aQ aR aS aT aU aV aW aX aY aZ a0 a1 a2 a3 a4 a5 a6 a7 a8 a9 ba bb bc bd be bf bh bi bj bk bl bm bn bo bp bq br bs bt bu bv bw bx bz bA bB bC bD bE b c e g i j l m n o p r s v w x y z B D E F G H I J K L M N O P R T U bF bG bH bI V W:Value}(bJ:Hid (∀(bK bL bM bN v':Value) (w':World) (av' sv':Nat->Value),GRow N0 w' v' (S++[gg]) av' sv'->Below N0 C w'->Q .normal ⟨#[v0,v1,v2,v3,v4,v5,v6,v7,v8,v9,ab,v',ac,ad,ae,af,ag,.pointer (some ⟨bg,0,none⟩),ah,ai,aj,ak,al,am,an,ao,ap,aq,ar,zzq,au,aw,ax,ay,az,aA,aB,aC,aD,aE,aF,aG,aH,aI,aJ,aK,aL,aM,aN,aO,aP,aQ,aR,aS,aT,aU,aV,aW,aX,aY,aZ,a0,a1,a2,a3,a4,a5,a6,a7,a8,a9,ba,bb,bc,bd,be,bf,bh,bi,bj,bk,bl,bm,bn,bo,bp,bq,br,bs,bt,bu,bv,bw,bx,bz,bA,bB,bC,bD,bE,b,c,e,g,i,j,l,m,n,o,p,r,s,v,w,x,y,z,B,D,E,F,G,H,I,J,K,L,M,N,O,P,R,T,U,bK,bL,bM,bN,V,W],[]⟩ w')) :
  Code.wp Tryz.prog (GA Tryz.f21 (IL 29)) Q ⟨#[v0,v1,v2,v3,v4,v5,v6,v7,v8,v9,ab,.slice va S.length vc,ac,ad,ae,af,ag,.pointer (some ⟨bg,0,none⟩),ah,ai,aj,ak,al,am,an,ao,ap,aq,ar,zzq,au,aw,ax,ay,az,aA,aB,aC,aD,aE,aF,aG,aH,aI,aJ,aK,aL,aM,aN,aO,aP,aQ,aR,aS,aT,aU,aV,aW,aX,aY,aZ,a0,a1,a2,a3,a4,a5,a6,a7,a8,a9,ba,bb,bc,bd,be,bf,bh,bi,bj,bk,bl,bm,bn,bo,bp,bq,br,bs,bt,bu,bv,bw,bx,bz,bA,bB,bC,bD,bE,b,c,e,g,i,j,l,m,n,o,p,r,s,v,w,x,y,z,B,D,E,F,G,H,I,J,K,L,M,N,O,P,R,T,U,bF,bG,bH,bI,V,W],[]⟩ C:=by
 refine Iu ?_
 conv=>arg 2;whnf
 dsimp only;obtain⟨i0,hi0,hz0,hz1,hz2⟩:=Cd Tryz.info56;obtain⟨⟨x0,x1,x2,x3,x4,x5⟩,-⟩:=Gb Z.out rfl;have HR:=Aa (HG.out.kept (BW C (Obj.cells #[.string (Fp gg),.int .i64 (Fq gg),.bool (Fo gg),.string (Fm gg),.slice A (Fr gg).length a,.slice A2 (DN gg).length C2] 56)));have bO:=Aa (HV.out.kept (BW C (Obj.cells #[.string (Fp gg),.int .i64 (Fq gg),.bool (Fo gg),.string (Fm gg),.slice A (Fr gg).length a,.slice A2 (DN gg).length C2] 56)));have HW:Hid (Below N0 C (C.alloc (Obj.cells #[.string (Fp gg),.int .i64 (Fq gg),.bool (Fo gg),.string (Fm gg),.slice A (Fr gg).length a,.slice A2 (DN gg).length C2] 56))):=Aa ((BW C _).mono hC);have bP:=Aa HR.out.row;have HVL:Hid (∀q,(Value.slice va S.length vc).ownBlock=some q->N0<=q):=Aa λq hq=>(HG.out.row.lt hq).1;have bQ:N0<=(C.alloc (Obj.cells #[.string (Fp gg),.int .i64 (Fq gg),.bool (Fo gg),.string (Fm gg),.slice A (Fr gg).length a,.slice A2 (DN gg).length C2] 56)).heap.size:=Am hC HW.out.size;clear Z HG HV
 go_wp2_with (at_builtin;refine Ck _ rfl _ _ 26 rfl N0 56 i0 _ 6 96 Tryz.underlying26 hi0 hz0 hz1 hz2 rfl (by decide) _ S.length _ rfl bP.out (some ⟨C.heap.size,0,none⟩) 1 1 (Nf gg (.slice A (Fr gg).length a) (.slice A2 (DN gg).length C2)) rfl rfl (CI C #[.string (Fp gg),.int .i64 (Fq gg),.bool (Fo gg),.string (Fm gg),.slice A (Fr gg).length a,.slice A2 (DN gg).length C2] _) (λh=>by cases h) (by intro u hu;simp[Nf]at hu;rcases hu with rfl|rfl|rfl|rfl|rfl|rfl<;>rfl) (by unfold maxLen;omega) (by omega) bQ ?_)
 intro v' w5 X Y bR;have HS5:=Aa (HR.out.app bO.out hN (λq hq=>aa.out q hq) X Y (by simpa using bR));have HW5:Hid (Below N0 C w5):=Aa (HW.out.grown Y bQ (λq hq=>HVL.out q hq));clear X Y bR bP HR bO aa
 go_wp2_with fail
 exact bJ.out _ _ _ _ _ _ _ _ HS5.out HW5.out
theorem US{Q:Exit->Act->World->Prop}{bg N0 N1 d vc a C2:Nat}{va A A2:Option Addr}{S:List (DH (d+1))}{av sv:Nat->Value}{gg:DH (d+1)}{C:World}(ad:Hid (C.heap[bg]? = some (.cells (GS gg A a A2 C2) 56 (0,0))))(HG:Hid (GRow N0 C (.slice va S.length vc) S av sv))(HV:Hid (GotV (λk=>k<N1) C gg A a A2 C2))(hN:N0<=N1)(ae:Hid (∀q,(Value.slice va S.length vc).ownBlock=some q->q<N1))(hC:N0<=C.heap.size)(hSl:S.length<=60){v0 v1 v2 v3 v4 v5 v6 v7 v8 v9 af ag ah ai aj ak al am an ao ap aq ar zzq au aw ax ay az aA aB aC aD aE aF aG aH aI aJ aK aL aM aN aO aP aQ aR aS aT aU aV aW aX aY aZ a0 a1 a2 a3 a4 a5 a6 a7 a8 a9 ba bb bc bd v71 v72 v73 v74 be bf bh bi bj bk bl bm bn bo bp bq br bs bt bu bv bw bx bz bA bB bC bD bE b c e g i j l m n o p r s v w x y z B D E F G H I J K L M N O P R T U V W X Y Z aa:Value}(bF:Hid (∀(u71 u72 u73 u74 v':Value) (w':World) (av' sv':Nat->Value),GRow N0 w' v' (S++[gg]) av' sv'->Below N0 C w'->Q .normal ⟨#[v0,v1,v2,v3,v4,v5,v6,v7,v8,v9,af,v',ag,ah,ai,aj,ak,.pointer (some ⟨bg,0,none⟩),al,am,an,ao,ap,aq,ar,zzq,au,aw,ax,ay,az,aA,aB,aC,aD,aE,aF,aG,aH,aI,aJ,aK,aL,aM,aN,aO,aP,aQ,aR,aS,aT,aU,aV,aW,aX,aY,aZ,a0,a1,a2,a3,a4,a5,a6,a7,a8,a9,ba,bb,bc,bd,u71,u72,u73,u74,be,bf,bh,bi,bj,bk,bl,bm,bn,bo,bp,bq,br,bs,bt,bu,bv,bw,bx,bz,bA,bB,bC,bD,bE,b,c,e,g,i,j,l,m,n,o,p,r,s,v,w,x,y,z,B,D,E,F,G,H,I,J,K,L,M,N,O,P,R,T,U,V,W,X,Y,Z,aa],[]⟩ w')) :
  Code.wp Tryz.prog (GA Tryz.f21 (IL 11)) Q ⟨#[v0,v1,v2,v3,v4,v5,v6,v7,v8,v9,af,.slice va S.length vc,ag,ah,ai,aj,ak,.pointer (some ⟨bg,0,none⟩),al,am,an,ao,ap,aq,ar,zzq,au,aw,ax,ay,az,aA,aB,aC,aD,aE,aF,aG,aH,aI,aJ,aK,aL,aM,aN,aO,aP,aQ,aR,aS,aT,aU,aV,aW,aX,aY,aZ,a0,a1,a2,a3,a4,a5,a6,a7,a8,a9,ba,bb,bc,bd,v71,v72,v73,v74,be,bf,bh,bi,bj,bk,bl,bm,bn,bo,bp,bq,br,bs,bt,bu,bv,bw,bx,bz,bA,bB,bC,bD,bE,b,c,e,g,i,j,l,m,n,o,p,r,s,v,w,x,y,z,B,D,E,F,G,H,I,J,K,L,M,N,O,P,R,T,U,V,W,X,Y,Z,aa],[]⟩ C:=by
 refine Iu ?_
 conv=>arg 2;whnf
 dsimp only;obtain⟨i0,hi0,hz0,hz1,hz2⟩:=Cd Tryz.info56;obtain⟨⟨x0,x1,x2,x3,x4,x5⟩,-⟩:=Gb ad.out rfl;have HR:=Aa (HG.out.kept (BW C (Obj.cells #[.string (Fp gg),.int .i64 (Fq gg),.bool (Fo gg),.string (Fm gg),.slice A (Fr gg).length a,.slice A2 (DN gg).length C2] 56)));have bG:=Aa (HV.out.kept (BW C (Obj.cells #[.string (Fp gg),.int .i64 (Fq gg),.bool (Fo gg),.string (Fm gg),.slice A (Fr gg).length a,.slice A2 (DN gg).length C2] 56)));have HW:Hid (Below N0 C (C.alloc (Obj.cells #[.string (Fp gg),.int .i64 (Fq gg),.bool (Fo gg),.string (Fm gg),.slice A (Fr gg).length a,.slice A2 (DN gg).length C2] 56))):=Aa ((BW C _).mono hC);have bH:=Aa HR.out.row;have HVL:Hid (∀q,(Value.slice va S.length vc).ownBlock=some q->N0<=q):=Aa λq hq=>(HG.out.row.lt hq).1;have bI:N0<=(C.alloc (Obj.cells #[.string (Fp gg),.int .i64 (Fq gg),.bool (Fo gg),.string (Fm gg),.slice A (Fr gg).length a,.slice A2 (DN gg).length C2] 56)).heap.size:=Am hC HW.out.size;clear ad HG HV
 go_wp2_with (at_builtin;refine Ck _ rfl _ _ 26 rfl N0 56 i0 _ 6 96 Tryz.underlying26 hi0 hz0 hz1 hz2 rfl (by decide) _ S.length _ rfl bH.out (some ⟨C.heap.size,0,none⟩) 1 1 (Nf gg (.slice A (Fr gg).length a) (.slice A2 (DN gg).length C2)) rfl rfl (CI C #[.string (Fp gg),.int .i64 (Fq gg),.bool (Fo gg),.string (Fm gg),.slice A (Fr gg).length a,.slice A2 (DN gg).length C2] _) (λh=>by cases h) (by intro u hu;simp[Nf]at hu;rcases hu with rfl|rfl|rfl|rfl|rfl|rfl<;>rfl) (by unfold maxLen;omega) (by omega) bI ?_)
 intro v' w5 ab ac bJ;have HS5:=Aa (HR.out.app bG.out hN (λq hq=>ae.out q hq) ab ac (by simpa using bJ));have HW5:Hid (Below N0 C w5):=Aa (HW.out.grown ac bI (λq hq=>HVL.out q hq));clear ab ac bJ bH HR bG ae
 go_wp2_with fail
 exact bF.out _ _ _ _ _ _ _ _ HS5.out HW5.out
theorem QJ(la:Option Addr)(n lcap:Nat)(V:Nat->LServ)(L:List PPart)(pa:Option Addr)(pn pc:Nat)(hR:∀nm,¬Ca L.length (DI L) nm<0->PartR n V (Du L nm))(d:Nat)(ih:Kh la n lcap V L pa pn pc d):Kh la n lcap V L pa pn pc (d+1):=by
 intro Z rv g typ key a cap ps w hS hPa hpa _ hpi hcR hm hP;subst hpa;obtain⟨i,hi,hil,hpO⟩:=FS hpi;have hPR:=hR typ hpi;rw[hi,Ax];rw[hpO]at hPR hcR ⊢;obtain⟨g',cap',a1,c1,a2,c2,a3,c3,hpv,-,-,-,hpt⟩:=hPa.pt hil;cases hpv;have hps:ps.length<=60:=hm.1;have hps':ps.length<=9223372036854775807:=by omega
 have hAsk:∀j,j<ps.length->¬BX (Ci L i).fs.length (De (Ci L i)) (BT (BS ps j))<0/\Rz L d (EQ (Ci L i) (BT (BS ps j))) (subs (BS ps j)):=λj hj=>IW hcR hj;have HPA:Hid (∃Z rv,Parts Z w (.slice (some ⟨g,0,none⟩) L.length pc) L rv):=Aa ⟨Z,rv,hPa⟩;have HRR:=Aa hR;have HIH:=Aa ih;clear hPa hcR hpi hpO hR ih hi hil;generalize Ci L i=p at *;have HS:=Aa hS;have T:=Aa hpt;have HP:=Aa hP;have HM:=Aa hm;have HPR:=Aa hPR;have HAsk:=Aa hAsk;obtain⟨G,hG⟩:∃G,G=D9 V L (d+1) p key ps:=⟨_,rfl⟩;rw[<-hG];have HGL:Hid (G.length=ps.length):=Aa (by rw[hG,NW]);have HGT:Hid (∀k,k<ps.length->G.take (k+1)=G.take k++[Ki V L (D9 V L d) p key (BS ps k)]):=Aa λk hk=>by rw[hG,Jj,SW _ _ _ hk,CL hk]
 clear hG hS hpt hP hm hPR hAsk
 go_enter Tryz.func21,Tryz.ntmps21
 go_wp2_with fail
 go_loopw [11,26] (λv iv wr => ∃k:Nat,k<=ps.length/\iv= .int .i64 k/\Below w.heap.size w wr/\∃av sv,GRow w.heap.size wr v (G.take k) av sv) (λ_ iv _=>ps.length - (intOf iv).toNat)
 case atStart=>exact⟨0,Ai _,rfl,Aq _ _,λ_=>undef,λ_=>undef,GRow.nil _ _ _ _ _⟩
 case round =>
  obtain⟨k,hk,rfl,hw,av,sv,I⟩:=hrel;obtain⟨S,U⟩:∃S,S=G.take k:=⟨_,rfl⟩;rw[<-U]at I;obtain⟨va,vc,rfl,hvc⟩:=I.slice
  by_cases hlt:k<ps.length
  ·obtain⟨b,o,A,C,hab,q0,q1,q2,hC,s0,s1,hPs⟩:=HP.out.2 k hlt
   subst hab;have q0:=BR hw q0;have q1:=BR hw q1;have q2:=BR hw q2;have hlt':(k:Int)<(ps.length:Int):=by omega
   have hk0:(0:Int)<=(k:Int):=by omega
   have hSl:S.length<=60:=by rw[U,Bb];omega
   obtain⟨gg,hgg⟩:∃gg,gg=Ki V L (D9 V L d) p key (BS ps k):=⟨_,rfl⟩;have HT:Hid (G.take (k+1)=S++[gg]):=Aa (by rw[HGT.out k hlt,<-U,hgg]);generalize hX:wr.alloc (Obj.cells #[.string (Di (BS ps k)),.string (BT (BS ps k)),.slice A (subs (BS ps k)).length C] 72)=X1;have hBX:Below wr.heap.size wr X1:=by rw[<-hX];exact BW _ _
   have HBK:Hid (X1.heap[wr.heap.size]? = some (.cells #[.string (Di (BS ps k)),.string (BT (BS ps k)),.slice A (subs (BS ps k)).length C] 72 (0,0))):=Aa (by rw[<-hX];exact Ap _ _);obtain⟨hf',hz⟩:=HAsk.out k hlt;have hf : ¬BX p.fs.length (De p) (BT (BS ps k))<0:=by omega
   obtain⟨c,ad⟩:∃c:Nat,BX p.fs.length (De p) (BT (BS ps k))=(c:Int):=⟨(BX p.fs.length (De p) (BT (BS ps k))).toNat,by omega⟩;have hfl:c<p.fs.length:=by
    have h1:=(E4 (p:=λj=>eqs (De p j).name (BT (BS ps k))) hf).1;have h2:Ds p.fs.length (λj=>eqs (De p j).name (BT (BS ps k)))=(c:Int):=ad;rw[h2]at h1;simpa using h1
   have hfo:c<p.os.length:=by rw[HPR.out.os];exact hfl
   have ef:EQ p (BT (BS ps k))=De p c:=by unfold EQ;rw[ad,Ax]
   have eo:Dd p (BT (BS ps k))=D1 p c:=by unfold Dd;rw[ad,Ax]
   obtain⟨O,hs,hsv,hOR⟩:=HPR.out.owner (BT (BS ps k)) hf;rw[ef]at hz hOR;rw[eo]at hsv hOR;have W:Hid (gg=if Dk (V O) (D1 p c).type key=true then Uo V L (D9 V L d) (B8 (BS ps k)) (De p c) (F8 (CC (V O) (D1 p c).type key) (D1 p c).field) (subs (BS ps k)) else EN (B8 (BS ps k)) (De p c).kind true ⟨#[]⟩ [] []):=Aa (by rw[hgg];unfold Ki UE;rw[ef,eo,hsv,Ax])
   obtain⟨fb,fo,hfa,f0,f1,f2,-⟩:=T.out.fields.2 c hfl;subst hfa;obtain⟨ob,oo,hoa,o0,o1,o2,-⟩:=T.out.owners.2 c hfo;subst hoa;rw[hsv]at o0;obtain⟨bs,os,hla,hsrv⟩:=HS.out.2 O hs;subst hla;have Y:Hid (Below w.heap.size w X1):=Aa (hw.trans (hBX.mono hw.size));have HXr:=Aa hBX;have HGR:=Aa I;have z:=Aa hsrv;have HFI:=Aa ad;have HF:Hid (w.cell? ⟨fb,fo+c*3,none⟩=some (.string (De p c).name)/\w.cell? ⟨fb,fo+c*3+1,none⟩=some (.int .i64 (De p c).kind)/\w.cell? ⟨fb,fo+c*3+2,none⟩=some (.string (De p c).type)):=Aa ⟨f0,f1,f2⟩;have HO:Hid (w.cell? ⟨ob,oo+c*3,none⟩=some (.int .i64 (O:Int))/\w.cell? ⟨ob,oo+c*3+1,none⟩=some (.string (D1 p c).type)/\w.cell? ⟨ob,oo+c*3+2,none⟩=some (.string (D1 p c).field)):=Aa ⟨o0,o1,o2⟩;have HOR:Hid (Um V O (De p c) (D1 p c)):=Aa hOR;have HGE:Hid (GE w (some ⟨bs,os,none⟩) n lcap V L (some ⟨g,0,none⟩) L.length pc d A (subs (BS ps k)) (De p c).type (De p c).kind):=Aa ⟨HS.out,HPA.out,hPs,HIH.out,λnm h=>HRR.out nm (by omega),HM.out.2 k hlt,λh=>hz.elim (λh1=>absurd h1.1 h) (λh1=>h1.2)⟩;have hwl:w.heap.size<=wr.heap.size:=hw.size;have P:Hid (∀q,(Value.slice va S.length vc).ownBlock=some q->q<wr.heap.size):=Aa λq hq=>(I.row.lt hq).2;clear hw hBX I hsrv ad hf hf' hz hOR hsv ef eo f0 f1 f2 o0 o1 o2 hPs hgg U s0 s1 hC
   go_upto_region 5 with fail
   clear hX q0 q1 q2;refine UL (g:=g) (o:=i*4) (bk:=wr.heap.size) (i:=c) (pf:=BT (BS ps k)) (by kernel_rfl) rfl rfl (BR Y.out T.out.c1) (by simp[World.cell?,HBK.out]) (λw1 h1=>?_) ?_
   ·have:=Gs (some ⟨fb,fo,none⟩) p.fs.length c1 (De p) (BT (BS ps k)) w1 (T.out.fields.kept (Y.out.trans (h1.mono Y.out.size)))
    rw[HFI.out]at this;exact this
   intro st w2 hB2 hs14;have x:Hid (Below w.heap.size w w2):=Aa (Y.out.trans (hB2.mono Y.out.size));have HR2:Hid (Below wr.heap.size wr w2):=Aa (HXr.out.trans (hB2.mono HXr.out.size));have ae:=Aa ((hB2.block _ (Ag HBK.out)).trans HBK.out);clear hB2 Y HXr HBK HFI;simp only[Cn,Act.put,Au,AD,AE,hs14];generalize st 30=t30;generalize st 31=t31;generalize st 32=t32;generalize st 33=t33;generalize st 34=t34;generalize st 35=t35;generalize st 36=t36;generalize st 37=t37;clear hs14
   go_upto_region 6 with fail
   refine UC (g:=g) (o:=i*4) (i:=c) (by kernel_rfl) rfl rfl hfl hfo (BR x.out T.out.c1) (BR x.out T.out.c2) (BR x.out HF.out.1) (BR x.out HF.out.2.1) (BR x.out HF.out.2.2) (BR x.out HO.out.1) (BR x.out HO.out.2.1) (BR x.out HO.out.2.2) ?_;intro l w3 bf bo hB3 hs15 hbf hBF hs16 hbo hBO;have HB3:Hid (Below w.heap.size w w3):=Aa (x.out.trans (hB3.mono x.out.size));have HR3:Hid (Below wr.heap.size wr w3):=Aa (HR2.out.trans (hB3.mono HR2.out.size));have r:=Aa ((hB3.block _ (Ag ae.out)).trans ae.out);have D:=Aa hBF;have Q:=Aa hBO;clear hB3 x HR2 ae hBF hBO HF HO hbf hbo;simp only[Cn,Act.put,Au,AD,AE,hs15,hs16];generalize l 38=t38;generalize l 39=t39;generalize l 40=t40;generalize l 41=t41;generalize l 42=t42;generalize l 43=t43;generalize l 44=t44;generalize l 45=t45;generalize l 46=t46;generalize l 47=t47;generalize l 48=t48;generalize l 49=t49;generalize l 50=t50;generalize l 51=t51;generalize l 52=t52;clear hs15 hs16
   go_upto_region 7 with fail
   refine UD (bp:=wr.heap.size) (bf:=bf) (nk:=Di (BS ps k)) (pf:=BT (BS ps k)) (A:=A) (pn:=(subs (BS ps k)).length) (pc:=C) (nm:=B8 (BS ps k)) (kd:=(De p c).kind) (by kernel_rfl) rfl rfl (by simp[World.cell?,r.out]) (by simp[World.cell?,r.out]) (by simp[World.cell?,r.out]) (by simp[World.cell?,D.out]) (λw1 _=>G5 d (BS ps k) A _ C w1) ?_;intro af w4 bg aa hs17 hbg hBG;have ab:Hid (Below w.heap.size w w4):=Aa (HB3.out.trans (aa.mono HB3.out.size));have HR4:Hid (Below wr.heap.size wr w4):=Aa (HR3.out.trans (aa.mono HR3.out.size));have ag:=Aa ((aa.block _ (Ag r.out)).trans r.out);have ah:=Aa ((aa.block _ (Ag D.out)).trans D.out);have E:=Aa ((aa.block _ (Ag Q.out)).trans Q.out);have ai:=Aa hBG;have hkg:wr.heap.size≠bg:=by have:=Ag r.out;omega
   have hfg:bf≠bg:=by have:=Ag D.out;omega
   have hog:bo≠bg:=by have:=Ag Q.out;omega
   have hwg:w.heap.size<=bg:=by have:=Ag r.out;omega
   have hrg:wr.heap.size<=bg:=by have:=Ag r.out;omega
   clear aa HB3 HR3 r D Q hBG hbg;simp only[Cn,Act.put,Au,AD,AE,hs17];generalize af 53=t53;generalize af 54=t54;generalize af 55=t55;generalize af 56=t56;generalize af 57=t57;clear hs17
   go_upto_region 8 with fail
   refine SP (bo:=bo) (s:=O) (ty:=(D1 p c).type) (tp:=SZ (V O) (D1 p c).type key) (by kernel_rfl) rfl rfl rfl hs (by simp[World.cell?,E.out]) (by simp[World.cell?,E.out]) (BR ab.out z.out.c2) (λw1 h1=>?_) ?_
   ·have:=FL (V O).xa (V O).nx (V O).xcap (V O).X (D1 p c).type key w1 (z.out.ok.things.kept (ab.out.trans (h1.mono ab.out.size)))
    rw[Mk]at this;exact this
   intro e u J B;have F:Hid (Below w.heap.size w u):=Aa (ab.out.trans (J.mono ab.out.size));have ac:Hid (Below wr.heap.size wr u):=Aa (HR4.out.trans (J.mono HR4.out.size));have aj:=Aa ((J.block _ (Ag ag.out)).trans ag.out);have R:=Aa ((J.block _ (Ag ah.out)).trans ah.out);have ak:=Aa ((J.block _ (Ag E.out)).trans E.out);have y:=Aa ((J.block _ (Ag ai.out)).trans ai.out);have hgl:bg<u.heap.size:=Ag y.out;clear J ab HR4 ag ah E ai
   cases hh:Dk (V O) (D1 p c).type key with
   |false =>
    have hnil:SZ (V O) (D1 p c).type key=none:=by
     have h1:=Kv (ty:=(D1 p c).type) (key:=key) z.out.ok.things;rw[hh]at h1;exact Option.isNone_iff_eq_none.1 (by rw[<-Option.not_isSome,h1];rfl)
    rw[hnil]at B;have HG0:Hid (gg=EN (B8 (BS ps k)) (De p c).kind true ⟨#[]⟩ [] []):=Aa (by rw[W.out,hh];rfl);have g2:u.cell? ⟨bg,2,none⟩=some (.bool false):=by simp[World.cell?,y.out]
    have z2:u.frozen? ⟨bg,2,none⟩=false:=by simp[World.frozen?,y.out]
    have HBY:Hid ((u.setCell ⟨bg,2,none⟩ (.bool true)).heap[bg]? = some (.cells (GS gg none 0 none 0) 56 (0,0))):=Aa (by rw[HG0.out];exact Ao _ bg 2 _ 56 _ y.out);have hRY:Below wr.heap.size wr (u.setCell ⟨bg,2,none⟩ (.bool true)):=ac.out.trans (((OnlyB.refl bg u).set 2 _).below hrg);have HWY:Hid (Below w.heap.size w (u.setCell ⟨bg,2,none⟩ (.bool true))):=Aa (F.out.trans (((OnlyB.refl bg u).set 2 _).below hwg));have HGY:=Aa (HGR.out.kept hRY);have hGV:GotV (λk=>k<u.heap.size) (u.setCell ⟨bg,2,none⟩ (.bool true)) gg none 0 none 0:=by
     rw[HG0.out];exact⟨Aj _,Aj _,Fi,Fg⟩
    have HGV:=Aa hGV;have hYs:w.heap.size<=(u.setCell ⟨bg,2,none⟩ (.bool true)).heap.size:=HWY.out.size;have al:w.heap.size<=u.heap.size:=F.out.size;have H:Hid (∀q,(Value.slice va S.length vc).ownBlock=some q->q<u.heap.size):=Aa λq hq=>Ah (P.out q hq) ac.out.size;clear hh hnil hRY hGV aj R ak ac HGR W HG0 z HOR HGE P y;simp only[Cn,Act.put,Au,AD,AE,B];generalize e 58=t58;generalize e 59=t59;generalize e 60=t60;generalize e 61=t61;generalize e 62=t62;generalize e 63=t63;generalize e 64=t64;generalize e 65=t65;generalize e 66=t66;generalize e 67=t67;clear B
    go_upto_region 11 with fail
    clear g2 z2;refine US (gg:=gg) (N0:=w.heap.size) (N1:=u.heap.size) HBY HGY HGV al H hYs hSl (Aa ?_);intro u71 u72 u73 u74 v' w6 av' sv' hG6 hB6;have HB6:Hid (Below w.heap.size w w6):=Aa (HWY.out.trans hB6);have HG6:=Aa hG6;clear hG6 hB6 HBY HGY HGV H HWY hYs al F
    go_wp2_with fail
    go_roundw
    case rel=>exact⟨k+1,by omega,by go_num,HB6.out,av',sv',by rw[HT.out];exact HG6.out⟩
    case measure=>simp[intOf];omega
   |true =>
    obtain⟨tb,to_,htp,hth⟩:=OQ z.out.ok.things hh;rw[htp]at B;obtain⟨m,hm,ev,hu,gl,hgk,hvr⟩:=HOR.out key hh;rw[hh,Af rfl,ev]at W;obtain⟨M,hthd⟩:∃M,M=CC (V O) (D1 p c).type key:=⟨_,rfl⟩;rw[<-hthd]at hth hm hu hvr W;obtain⟨-,-,t2,-,-,-,hVA⟩:=hth;have t2:=BR F.out t2;have HVA:=Aa hVA;have HU:=Aa hu;have N:Hid (gl.kind=(De p c).kind/\ValR gl (M.V m)):=Aa ⟨hgk,hvr⟩;have HCF:Hid (u.cell? ⟨bf,2,none⟩=some (.string (De p c).type)):=Aa (by simp[World.cell?,R.out]);have HCF1:Hid (u.cell? ⟨bf,1,none⟩=some (.int .i64 (De p c).kind)):=Aa (by simp[World.cell?,R.out]);have HCK:Hid (u.cell? ⟨wr.heap.size,2,none⟩=some (.slice A (subs (BS ps k)).length C)):=Aa (by simp[World.cell?,aj.out]);have HCO:Hid (u.cell? ⟨bo,2,none⟩=some (.string (D1 p c).field)):=Aa (by simp[World.cell?,ak.out]);have H:Hid (∀q,(Value.slice va S.length vc).ownBlock=some q->q<u.heap.size):=Aa λq hq=>Ah (P.out q hq) ac.out.size;have al:w.heap.size<=u.heap.size:=F.out.size;clear hh htp ev hu hgk hvr hVA hthd aj R ak z HOR P;simp only[Cn,Act.put,Au,AD,AE,B];generalize e 58=t58;generalize e 59=t59;generalize e 60=t60;generalize e 61=t61;generalize e 62=t62;generalize e 63=t63;generalize e 64=t64;generalize e 65=t65;generalize e 66=t66;generalize e 67=t67;clear B
    go_upto_block 2 with fail
    clear t2;refine OP (X:=M.V) (m:=m) (fl:=gl) (nm:=B8 (BS ps k)) (kd:=(De p c).kind) HGE F hwg HCF HCK hfg hkg HVA hm HU N HCO hog y (Aa ?_);intro u20 u22 u23 u80 u81 u82 u83 u84 u85 u86 u87 u88 u89 u90 u91 u92 u93 u94 u95 u96 u97 u98 u99 u100 u101 u102 u103 u104 u105 u106 u107 u108 u109 u110 u111 u112 u113 u114 u115 u116 u117 u118 u119 u120 w6 sa sc sv6 hk6 hb6 hs6;have HK6:=Aa hk6;have HBG6:=Aa hb6;have HS6:=Aa hs6;have HCF6:Hid (w6.cell? ⟨bf,1,none⟩=some (.int .i64 (De p c).kind)):=Aa (hk6.cell HCF1.out hfg);have htx:(De p c).kind≠1->(M.V m).text=⟨#[]⟩:=λh=>N.out.2.text (by rw[N.out.1];exact h);have hS1:(De p c).kind=1->EK V L d (Du L (De p c).type) (subs (BS ps k)) (M.V m).K (M.V m).nk = []:=λh=>by
     rw[N.out.2.word (by rw[N.out.1];exact h)];rfl
    have hS9:(EK V L d (Du L (De p c).type) (subs (BS ps k)) (M.V m).K (M.V m).nk).length<=20:=Am (LE _ _ _ _ _ _ _) N.out.2.few;have HG1:Hid (gg=JO (B8 (BS ps k)) (De p c).kind (M.V m).text (EK V L d (Du L (De p c).type) (subs (BS ps k)) (M.V m).K (M.V m).nk)):=Aa (by rw[W.out];rfl);clear hk6 hb6 hs6 HGE HCF HCF1 HCK HVA HU N HCO y W;generalize EK V L d (Du L (De p c).type) (subs (BS ps k)) (M.V m).K (M.V m).nk=SS at *;generalize (M.V m).text=tx at *;rename_i Kx am;refine am _ _ ?_;clear am;refine wp_seq ?_;refine SM (N1:=u.heap.size) (nm:=B8 (BS ps k)) (tx:=tx) (kd:=(De p c).kind) HCF6 HBG6 HS6 hgl hS9 htx hS1 (Aa ?_);intro u121 u122 u123 u124 u125 u126 u127 u128 u129 u130 u131 u132 u133 u134 w7 A7 C7 A8 C8 hk7 hb7 hv7;rw[<-HG1.out]at hb7 hv7;have an:CG (λq=>q=bg) u w7:=HK6.out.trans hk7 λ_ _ h=>h;have HR7:Hid (Below wr.heap.size wr w7):=Aa (an.low ac.out hrg);have HW7:Hid (Below w.heap.size w w7):=Aa (an.low F.out hwg);have HBG7:=Aa hb7;have HGV7:=Aa hv7;have HG7:=Aa (HGR.out.kept HR7.out);have hW7s:w.heap.size<=w7.heap.size:=HW7.out.size;clear hk7 hb7 hv7 an HR7 HK6 HBG6 HS6 HCF6 HG1 hS9 htx hS1 ac HGR;show Code.wp _ _ _ _ _;refine UP (gg:=gg) (N0:=w.heap.size) (N1:=u.heap.size) HBG7 HG7 HGV7 al H hW7s hSl (Aa ?_);intro u135 u136 u137 u138 v' w8 av' sv' hG8 hB8;have HB8:Hid (Below w.heap.size w w8):=Aa (HW7.out.trans hB8);have HG8:=Aa hG8;clear hG8 hB8 HBG7 HG7 HGV7 H HW7 hW7s al F;rename_i Kx am;refine am _ _ ?_;clear am
    go_wp2_with fail
    go_roundw
    case rel=>exact⟨k+1,by omega,by go_num,HB8.out,av',sv',by rw[HT.out];exact HG8.out⟩
    case measure=>simp[intOf];omega
  ·have hkn:k=ps.length:=by omega
   have hSG:S=G:=by rw[U,hkn,<-HGL.out,Br]
   have HFin:Hid (Ev w.heap.size (d+1) wr va vc S):=Aa ⟨by rw[hSG,HGL.out];unfold maxLen;omega,av,sv,I⟩;have HWF:=Aa hw;have HSG:=Aa hSG;clear I hw U hSG
   go_wp2_with fail
   go_ret;exact⟨⟨va,vc,by rw[HSG.out];rfl,by rw[<-HSG.out];exact hvc,by rw[<-HSG.out];exact HFin.out⟩,HWF.out⟩
theorem Rn(la:Option Addr)(n lcap:Nat)(V:Nat->LServ)(L:List PPart)(pa:Option Addr)(pn pc:Nat):Kh la n lcap V L pa pn pc 0:=by
 intro Z c g typ key a cap ps w _ _ _ b;exact absurd (MN ps) b
theorem N4(la:Option Addr)(n lcap:Nat)(V:Nat->LServ)(L:List PPart)(pa:Option Addr)(pn pc:Nat)(a:∀nm,¬Ca L.length (DI L) nm<0->PartR n V (Du L nm)):∀d,Kh la n lcap V L pa pn pc d
 | 0=>Rn la n lcap V L pa pn pc
 | d+1=>QJ la n lcap V L pa pn pc a d (N4 la n lcap V L pa pn pc a d)
end Go.Proofs.YtjjggefmmeminabGreat
