import Derived.Test.YtjjggefmmeminabGreatRmTyp
import Derived.Test.YtjjggefmmeminabGreatRyCheck
import Derived.Test.YtjjggefmmeminabGreatRqAll
import Derived.Test.YtjjggefmmeminabGreatRqPick
set_option maxRecDepth 100000
set_option maxHeartbeats 80000000
namespace Go.Proofs.YtjjggefmmeminabGreat
open Go.RowKit Go.Sort Go.PlainAid
theorem RS.rebox'{w w':World}{base e b n:Nat}{fv:Value}{a:Nat->Value}{len:Nat->Nat}{txt:Nat->Nat->ByteArray}(h:RS w base e n fv a len txt)(hb:Below w.heap.size w w')(d:base<=b)(c:w'.heap[b]? = some (.cells #[a 0,a 1,fv] 107 (0,0))):RS w' base b n fv a len txt :=
 ⟨d,c,h.frow.kept hb,λk hk=>(h.texts k hk).kept hb,h.apart,h.lens,h.good,h.nmax⟩
theorem R6{w:World}{s:LServ}(h:ServOk w s):∀i,i<s.nt->∀j,j<(s.T i).nf->(Lit.int .i64 ((s.T i).F j).kind).wf=true:=λi hi j a=>by
 obtain⟨-,-,-,-,-,-,-,hF⟩:=h.types.2 i hi;obtain⟨-,-,-,-,-,-,-,-,hk⟩:=hF.2 j a;exact hk
theorem Td{c:Act}{w U:World}{n:Nat}{V:Nat->LServ}{k:Int}(g:DT n V=(6,k))(a:U.heap[w.heap.size]? = some (.cells #[.int .i64 0,.int .i64 0] 39 (0,0)))(i:c.defers = [])(h2:c.tmps.getD 2 undef= .slice none 0 0)(h3:c.tmps.getD 3 undef= .pointer (some ⟨w.heap.size,0,none⟩))(d:Below w.heap.size w ((U.setCell ⟨w.heap.size,0,none⟩ (.int .i64 6)).setCell ⟨w.heap.size,1,none⟩ (.int .i64 k))) :
  bodyPost Tryz.prog Tryz.f17 (λe w'=>(∃va vn vc,e= .returned (.tuple #[.slice va vn vc,Dj (DT n V)])/\((DT n V).1≠0->va=none/\vn=0/\vc=0)/\((DT n V).1=0->∃j,Parts (λb=>b<w.heap.size) w' (.slice va vn vc) (Cr (CQ V) (BZ V) n) j))/\Below w.heap.size w w') .ret c ((U.setCell ⟨w.heap.size,0,none⟩ (.int .i64 6)).setCell ⟨w.heap.size,1,none⟩ (.int .i64 k)):=by
 have y:((U.setCell ⟨w.heap.size,0,none⟩ (.int .i64 6)).setCell ⟨w.heap.size,1,none⟩ (.int .i64 k)).heap[w.heap.size]? = some (.cells #[.int .i64 6,.int .i64 k] 39 (0,0)):=by
  have l:=Ao U w.heap.size 0 _ 39 (.int .i64 6) a;rw[Ao _ w.heap.size 1 _ 39 (.int .i64 k) l];rfl
 generalize (U.setCell ⟨w.heap.size,0,none⟩ (.int .i64 6)).setCell ⟨w.heap.size,1,none⟩ (.int .i64 k)=Z at *;have m:Z.cell? ⟨w.heap.size,0,none⟩=some (.int .i64 6):=by simp[World.cell?,y]
 have o:Z.cell? ⟨w.heap.size,1,none⟩=some (.int .i64 k):=by simp[World.cell?,y]
 rw[AX]at h2 h3;refine At (v:=.tuple #[.slice none 0 0,.agg #[.int .i64 6,.int .i64 k]]) (by simp[results,Tryz.results17,go_sem,h2,h3,m,o]) i ⟨⟨none,0,0,by rw[g];rfl,λ_=>⟨rfl,rfl,rfl⟩,λh=>absurd h (by rw[g];show ¬(6:Int)=0;decide)⟩,d⟩
theorem Jr(a:Option Addr)(n cap:Nat)(V:Nat->LServ)(w:World)(hS:Dc w a n V) :
  Calls Tryz.prog 17 #[.slice a n cap] w λe w'=>(∃va vn vc,e= .returned (.tuple #[.slice va vn vc,Dj (DT n V)])/\((DT n V).1≠0->va=none/\vn=0/\vc=0)/\((DT n V).1=0->∃rv,Parts (λb=>b<w.heap.size) w' (.slice va vn vc) (Cr (CQ V) (BZ V) n) rv))/\Below w.heap.size w w':=by
 have hn:n<=9223372036854775807:=hS.1;have HS:=Aa hS;clear hS;generalize hW:w.alloc (Obj.cells #[.int .i64 0,.int .i64 0] 39)=W;have hBW:Below w.heap.size w W:=by rw[<-hW];exact BW _ _
 have hbf:W.heap[w.heap.size]? = some (.cells #[.int .i64 0,.int .i64 0] 39 (0,0)):=by rw[<-hW];exact Ap _ _
 have d:=QZ a n cap V W (HS.out.kept hBW);have HBW:=Aa hBW;have HBF:=Aa hbf;clear hBW hbf;have HD:Hid (DT n V=if (DE n V).1≠0 then DE n V else CA n (Gw (CQ V) (BZ V))):=rfl
 have HOK:=Aa (E5 (n:=n) (V:=V));generalize DE n V=r at *;unfold Dj at d
 go_enter Tryz.func17,Tryz.ntmps17
 go_wp2_with fail
 clear hW;refine d.mono ?_;clear d;rintro e w1 ⟨rfl,hw1⟩;generalize hX:w1.alloc (Obj.cells #[.int .i64 r.1,.int .i64 r.2] 39)=X;have hBX:Below w1.heap.size w1 X:=by rw[<-hX];exact BW _ _
 have d0:X.cell? ⟨w1.heap.size,0,none⟩=some (.int .i64 r.1):=by rw[<-hX,Ac _ _ _ _ rfl];rfl
 have d1:X.cell? ⟨w1.heap.size,1,none⟩=some (.int .i64 r.2):=by rw[<-hX,Ac _ _ _ _ rfl];rfl
 have hWX:Below W.heap.size W X:=hw1.trans (hBX.mono hw1.size);have hbfX:=(hWX.block _ (Ag HBF.out)).trans HBF.out;have HX:Hid (Below w.heap.size w X):=HBW.out.trans (hWX.mono HBW.out.size);have g:=Aa hbfX;clear hBX hWX hw1 hbfX HBF
 by_cases h0:r.1=0
 case neg =>
  have hb:(r.1 != 0)=true:=by simpa using h0
  have HE:Hid (DT n V=r):=by rw[HD.out,Af h0];rfl
  have H0:=Aa h0;obtain⟨x0,x1,z0,z1⟩:=Dz g.out;have HKZ:Hid (Below w.heap.size w ((X.setCell ⟨w.heap.size,0,none⟩ (.int .i64 r.1)).setCell ⟨w.heap.size,1,none⟩ (.int .i64 r.2))):=(HX.out.setCell (Aj _) _).setCell (Aj _) _;clear h0
  go_wp2_with fail
  clear hX
  go_region
  go_wp2_with fail
  exact At (v:=.tuple #[.slice none 0 0,.agg #[.int .i64 r.1,.int .i64 r.2]]) (by simp[results,Tryz.results17,go_sem,x0,x1]) rfl ⟨⟨none,0,0,by rw[HE.out];rfl,λ_=>⟨rfl,rfl,rfl⟩,λh=>absurd (by rw[HE.out]at h;exact h) H0.out⟩,HKZ.out.drew⟩
 have hb:(r.1 != 0)=false:=by simpa using h0
 have HE:Hid (DT n V=CA n (Gw (CQ V) (BZ V))):=by rw[HD.out,Ae (λh=>h h0)];rfl
 obtain⟨hn5,hokA⟩:=HOK.out h0;have l:Hid (∀j,j<n->(JV (V j)).1=0):=λj s=>(hokA j s).1;clear h0 HD HOK hokA
 go_wp2_with fail
 clear hX d0 d1;obtain⟨E,hZX⟩:∃E:Nat->Prop,E=λb=>b<X.heap.size:=⟨_,rfl⟩;have o:Hid (∀b,E b↔b<X.heap.size):=λb=>by rw[hZX]
 clear hZX
 go_loopw [5,26] (λv i wr => ∃k:Nat,k<=n/\i= .int .i64 k/\Hid (∀j,j<k->Gw (CQ V) (BZ V) j=0)/\Keep E X wr/\∃rk,Parts E wr v (Cr (CQ V) (BZ V) k) rk) (λ_ i _=>n - (intOf i).toNat)
 case atStart=>exact⟨0,Ai _,rfl,(λj s=>absurd s (Ak _)),Keep.refl _ _,λ_ _=>undef,LF _ _ _⟩
 case round =>
  obtain⟨k,hk,rfl,d,F,rk,H⟩:=hrel;have HCL:=Aa d;clear d;obtain⟨pa,pc,hpv,-⟩:=H.slice;subst hpv;have M:Below X.heap.size X wr:=F.below λb hb=>(o.out b).2 hb;have N:Below w.heap.size w wr:=HX.out.trans (M.mono HX.out.size)
  by_cases x:k<n
  ·obtain⟨sb,so,hsa,hs⟩:=(HS.out.kept N).2 k x
   have c0:=hs.c0;have c1:=hs.c1;have c2:=hs.c2;rw[hsa];have hlt':(k:Int)<(n:Int):=by omega
   have hk0:(0:Int)<=(k:Int):=by omega
   generalize hA:wr.alloc (Obj.cells #[.slice (V k).ta (V k).nt (V k).tcap,.slice (V k).ca (V k).nc (V k).ccap,.slice (V k).xa (V k).nx (V k).xcap] 81)=D;have hBD:Below wr.heap.size wr D:=by rw[<-hA];exact BW _ _
   have O:D.heap[wr.heap.size]? = some (.cells #[.slice (V k).ta (V k).nt (V k).tcap,.slice (V k).ca (V k).nc (V k).ccap,.slice (V k).xa (V k).nx (V k).xcap] 81 (0,0)):=by rw[<-hA];exact Ap _ _
   have b0:D.cell? ⟨wr.heap.size,0,none⟩=some (.slice (V k).ta (V k).nt (V k).tcap):=by simp[World.cell?,O]
   have b1:D.cell? ⟨wr.heap.size,1,none⟩=some (.slice (V k).ca (V k).nc (V k).ccap):=by simp[World.cell?,O]
   have p:=hs.ok.kept hBD;have d:=KR (V k).ta (V k).ca (V k).nt (V k).tcap (V k).nc (V k).ccap (V k).T (V k).C D p.types p.changes p.tcap;rw[NO]at d;have P:(EZ (V k).nt (V k).T (V k).nc (V k).C).1=0:=l.out k x;have HOKD:=Aa p;have Q:=Aa hBD;have HBX:=Aa O;have HPR:=Aa H;have HKR:=Aa F;have HXR:=Aa M;clear hs O hBD H F M N p
   go_wp2_with fail
   clear hA c0 c1 c2;refine d.mono ?_;clear d;rintro e w2 ⟨⟨x0,x1,fv,rfl,y,⟨y0,l0,t0,rfl⟩,⟨y1,l1,t1,rfl⟩,⟨y2,l2,t2,rfl⟩⟩,hw2⟩;obtain⟨base,bs,rows,e0,e1,y⟩:=y P;have hE0':EZ (V k).nt (V k).T (V k).nc (V k).C=(0,(EZ (V k).nt (V k).T (V k).nc (V k).C).2):=by rw[<-P]
   rw[hE0'];clear hE0';generalize (EZ (V k).nt (V k).T (V k).nc (V k).C).2=z2;unfold FY;generalize hY:(w2.alloc (Obj.cells #[.slice y0 l0 t0,.slice y1 l1 t1,.slice y2 l2 t2] 107)).alloc (Obj.cells #[.int .i64 0,.int .i64 z2] 39)=G;have hBG:Below w2.heap.size w2 G:=by rw[<-hY];exact CN _ _ _
   have hbs:G.heap[w2.heap.size]? = some (.cells #[.slice y0 l0 t0,.slice y1 l1 t1,.slice y2 l2 t2] 107 (0,0)):=by rw[<-hY];exact(A5 _ _ _ (by simp)).trans (Ap _ _)
   rw[<-e0,<-e1]at hbs;have hrG:=y.rebox' hBG (by have:=y.hbs;have:=Ag y.box;omega) hbs;have R:Below D.heap.size D G:=hw2.trans (hBG.mono hw2.size);have hR0:=Dn (n:=(V k).nt) (T:=(V k).T) (m:=(V k).nc) (C:=(V k).C) P;have I:=J0 (C:=(V k).C) hR0 (V k).nc;have d:=Mu (V k).ta (V k).nt (V k).tcap base w2.heap.size _ rows (V k).T _ G (HOKD.out.types.kept R) hrG hR0 I.own0 (R6 HOKD.out);have b0:=BR R b0;have Z:=Aa R;have HREL:Hid (Rel (V k).nt (V k).T (B7 (V k)) (II (V k).nt (Cj (V k).nt (V k).T) (Co (V k).T) (V k).C (V k).nc)):=I;clear hBG hbs hrG R y hR0 I hw2 e0 e1 b1 P;generalize II (V k).nt (Cj (V k).nt (V k).T) (Co (V k).T) (V k).C (V k).nc=txt at *
   go_wp2_with fail
   clear hY;refine d.mono ?_;clear d;rintro e B ⟨⟨a2,k2,a3,k3,Ad,Cp,NV,rfl,-,-,rN,rO,rT,rF⟩,hwB⟩;have hDB:Below D.heap.size D B:=Z.out.trans (hwB.mono Z.out.size);have J:Below wr.heap.size wr B:=Q.out.trans (hDB.mono Q.out.size);have hzG:wr.heap.size<=G.heap.size:=Am Q.out.size Z.out.size;obtain⟨Y,A⟩:∃Y:Nat->Prop,Y=λb=>E b\/(wr.heap.size<=b/\b<B.heap.size):=⟨_,rfl⟩;have HPB:Hid (Parts Y B (.slice pa (Cr (CQ V) (BZ V) k).length pc) (Cr (CQ V) (BZ V) k) rk):=by rw[A];exact HPR.out.kept J
   have hzX:X.heap.size<=wr.heap.size:=HKR.out.size;have HYB:Hid (∀b,Y b->b<B.heap.size):=λb hb=>by
    rw[A]at hb;rcases hb with hb|hb
    ·have:=(o.out b).1 hb;have:=J.size;omega
    ·exact hb.2
   have HYZ:Hid (∀{a b:World},Keep Y a b->Keep E a b):=λh=>h.mono λb hb=>by rw[A];exact .inl hb
   have HPZ:Hid (∀{a:World} {v:Value} {L':List PPart} {r:Nat->Nat->Value},Parts Y a v L' r->Parts E a v L' r):=λh=>h.less λb hb=>by rw[A];exact .inl hb
   have HKB:Hid (Keep E X B):=HKR.out.trans (Keep.of J λb hb=>by have:=(o.out b).1 hb;omega);obtain⟨_,_,_,hsX⟩:=(HS.out.kept HX.out).2 k x;have hRS:DB (V k).nt (B7 (V k)):=D2 (Dn (l.out k x)) (V k).nc;have HGS:=Aa (Rm hsX.ok (l.out k x));have HTY:Hid (∀w',Keep Y B w'->∀j,j<(V k).nt->TyAt w' wr.heap.size (V k) a2 a3 j (Ad j) (Cp j) (B7 (V k) j)):=λw' hk'=>by
    refine UM hzG ((hDB.block _ (Ag HBX.out)).trans HBX.out) (hsX.ok.types.kept ((HKB.out.trans (HYZ.out hk')).below λb hb=>(o.out b).2 hb)) HREL.out HGS.out rT rF rN rO λb h1 h2=>hk'.block b ?_;rw[A];exact .inr ⟨h1,h2⟩
   have hn8:(V k).nt<=8:=hRS.few;have HNF:Hid (∀j,j<(V k).nt->(B7 (V k) j).nf<=10):=λj s=>(hRS.fld j s).few;have HFW:Hid (Few (Cr (CQ V) (BZ V) k) (8*k)):=My (n:=CQ V) (S:=BZ V) k (λq hq=>(Dn (l.out q (by omega))).few) (λq hq j s=>((D2 (Dn (l.out q (by omega))) (V q).nc).fld j s).few);have HRI:Hid (Ik (Cr (CQ V) (BZ V) k)):=Kj k;have HEA:Hid (Gw (CQ V) (BZ V) k=I3 (k:Int) (Cr (CQ V) (BZ V) k) (B7 (V k)) (V k).nt):=rfl;have HPK:Hid (Cr (CQ V) (BZ V) (k+1)=Dh (k:Int) (Cr (CQ V) (BZ V) k) (B7 (V k)) (V k).nt):=rfl;have hkw:=Sf k (by omega);have HKW:=Aa hkw;have hzB:wr.heap.size<=B.heap.size:=J.size;clear hDB J hzG A hsX hRS rN rO rT rF hwB HREL Z Q HBX HPR b0 hkw;generalize B7 (V k)=S at *;generalize Cr (CQ V) (BZ V) k=L0 at *;generalize wr.heap.size=bs at *
   go_wp2_with fail
   go_loopw [5,47] (λv j wr => ∃m:Nat,m<=(V k).nt/\j= .int .i64 m/\Hid (∀q,q<m->Gm (Dh (k:Int) L0 S q) (S q)=0)/\Keep Y B wr/\∃rm,Parts Y wr v (Dh (k:Int) L0 S m) rm) (λ_ j _=>(V k).nt - (intOf j).toNat)
   case atStart=>exact⟨0,Ai _,rfl,(λj s=>absurd s (Ak _)),Keep.refl _ _,rk,HPB.out⟩
   case round =>
    clear HPB;obtain⟨m,hm,rfl,d,u,rm,K⟩:=hrel;have HCM:=Aa d;clear d;obtain⟨qa,qc,hqv,-⟩:=K.slice;subst hqv
    by_cases L:m<(V k).nt
    ·have hfew:=HFW.out.fold (svc:=(k:Int)) (S:=S) m (λq hq=>HNF.out q (by omega))
     have hml':(m:Int)<((V k).nt:Int):=by omega
     have HYR:Hid (∀b,Y b->b<wr.heap.size):=λb hb=>Ah (HYB.out b hb) u.size;have HTYm:Hid (∀w',Keep Y wr w'->TyAt w' bs (V k) a2 a3 m (Ad m) (Cp m) (S m)):=λw' h=>HTY.out w' (u.trans h) m L;have HKX:Hid (∀U,Keep Y wr U->Keep E X U):=λU h=>HKB.out.trans (HYZ.out (u.trans h));have HRBm:Hid (∀U,Keep Y wr U->U.heap[w.heap.size]? = some (.cells #[.int .i64 0,.int .i64 0] 39 (0,0))):=λU h=>((HKX.out U h).block _ ((o.out _).2 (Ag g.out))).trans g.out;have HPM:=Aa K;have HKM:=Aa u;have HFN:Hid (Dh (k:Int) L0 S (m+1)=Ez (k:Int) (Dh (k:Int) L0 S m) (S m)):=rfl;have HFE:=Aa hfew;have hnf10:=HNF.out m L;clear K u hfew;generalize hLm:Dh (k:Int) L0 S m=Lm at *;have HLM:=Aa hLm;clear hLm
     go_upto_block 3 with fail
     refine Pq HTYm (Aa (HGS.out m L)) HKW HYR L hnf10 HFE (by omega) HRBm HPM (Aa ?_) (Aa ?_)
     ·intro u2 u12 u13 u14 u15 u16 u17 u49 u50 u51 u52 u53 u54 u55 u56 u57 u58 u59 u60 u61 u62 u63 u64 u65 u66 u67 u68 u69 u70 u71 u72 u73 u74 u75 u76 u77 u78 u79 u80 u81 u82 u83 u84 u85 u86 u87 u88 u89 u90 u91 u92 u93 u94 u95 u96 u97 u98 u99 u100 u101 u102 u103 u104 u105 u106 u107 u108 u109 u110 u111 u112 u113 u114 u115 u116 u117 u118 u119 u120 u121 u122 u123 u124 u125 u126 u127 u128 u129 u130 u131 u132 u133 u134 u135 u136 u137 u138 u139 u140 u141 u142 u143 u144 u145 u146 u147 u148 u149 u150 u151 u152 u153 u154 u155 u156 u157 u158 u159 u160 u161 u162 u163 u164 u165 u166 u167 u168 u169 u170 u171 u172 u173 va vc rj w' he hk hp
      have HCM2:Hid (∀j,j<m+1->Gm (Dh (k:Int) L0 S j) (S j)=0):=λj s=>by
       rcases Nat.lt_succ_iff_lt_or_eq.1 s with h|h
       ·exact HCM.out j h
       ·rw[h,HLM.out];exact he
      have HKF:Hid (Keep Y B w'):=HKM.out.trans hk;have HPF:Hid (∃rm',Parts Y w' (.slice va (Ez (k:Int) Lm (S m)).length vc) (Dh (k:Int) L0 S (m+1)) rm'):=by
       rw[HFN.out];exact⟨rj,hp⟩
      clear he hk hp
      go_wp2_with fail
      go_roundw
      case rel=>exact⟨m+1,by omega,by go_num,HCM2,HKF.out,HPF.out⟩
      case measure=>simp[intOf];omega
     ·intro a' U he hk hd h2 h3
      have HER:Hid (DT n V=(6,(k:Int))):=by
       have h7:Gm (Dh (k:Int) L0 S m) (S m)=6:=by rw[HLM.out];exact he
       have h8:Gw (CQ V) (BZ V) k=6:=by rw[HEA.out,NR L (by rw[h7];decide) HCM.out,h7]
       rw[HE.out,Do x (by rw[h8];decide) HCL.out,h8];rfl
      have hkx:=HKX.out U hk;have hbox:=HRBm.out U hk;have h1:Below w.heap.size w U:=HX.out.trans ((hkx.below λb hb=>(o.out b).2 hb).mono HX.out.size);have hKZ:Below w.heap.size w ((U.setCell ⟨w.heap.size,0,none⟩ (.int .i64 6)).setCell ⟨w.heap.size,1,none⟩ (.int .i64 (k:Int))):=(h1.setCell (Aj _) _).setCell (Aj _) _;exact Td HER.out hbox hd h2 h3 hKZ
    ·have hmn:m=(V k).nt:=by omega
     subst hmn;have HE0:Hid (Gw (CQ V) (BZ V) k=0):=by rw[HEA.out];exact Me HCM.out
     have HCL2:Hid (∀j,j<k+1->Gw (CQ V) (BZ V) j=0):=λj s=>by
      rcases Nat.lt_succ_iff_lt_or_eq.1 s with h|h
      ·exact HCL.out j h
      ·rw[h];exact HE0.out
     have HKF:Hid (Keep E X wr):=HKB.out.trans (HYZ.out u);have HPF:Hid (∃rm',Parts E wr (.slice qa (Dh (k:Int) L0 S (V k).nt).length qc) (Cr (CQ V) (BZ V) (k+1)) rm'):=by
      rw[HPK.out];exact⟨rm,HPZ.out K⟩
     clear u K
     go_wp2_with fail
     go_roundw
     case rel=>exact⟨k+1,by omega,by go_num,HCL2,HKF.out,HPF.out⟩
     case measure=>simp[intOf];omega
  ·have hkn:k=n:=by omega
   subst hkn;have HER:Hid (DT k V=(0,0)):=by rw[HE.out];exact Dm HCL.out
   have HBFU:Hid (wr.heap[w.heap.size]? = some (.cells #[.int .i64 0,.int .i64 0] 39 (0,0))):=(F.block _ ((o.out _).2 (Ag g.out))).trans g.out;obtain⟨x0,x1,z0,z1⟩:=Dz HBFU.out;have HKZ:Hid (Below w.heap.size w ((wr.setCell ⟨w.heap.size,0,none⟩ (.int .i64 0)).setCell ⟨w.heap.size,1,none⟩ (.int .i64 0))):=(N.setCell (Aj _) _).setCell (Aj _) _;have HPZ:Hid (Parts (λb=>b<w.heap.size) ((wr.setCell ⟨w.heap.size,0,none⟩ (.int .i64 0)).setCell ⟨w.heap.size,1,none⟩ (.int .i64 0)) (.slice pa (Cr (CQ V) (BZ V) k).length pc) (Cr (CQ V) (BZ V) k) rk):=by
    refine(H.other (B:=w.heap.size) (λj _ s=>?_) (λc t z h=>?_)).less λb hb=>(o.out b).2 (Ah hb HX.out.size)
    ·rw[Al _ _ _ _ s,Al _ _ _ _ s]
    ·rw[HBFU.out]at h
     cases h;exact⟨by decide,by decide,by decide⟩
   clear F H M N
   go_wp2_with fail
   exact At (v:=.tuple #[.slice pa (Cr (CQ V) (BZ V) k).length pc,.agg #[.int .i64 0,.int .i64 0]]) (by simp[results,Tryz.results17,go_sem,x0,x1]) rfl ⟨⟨pa,_,pc,by rw[HER.out];rfl,λh=>absurd (by rw[HER.out]) h,λ_=>⟨rk,HPZ.out⟩⟩,HKZ.out⟩
theorem Rd(la:Option Addr)(n cap:Nat)(V:Nat->LServ)(d:Nat)(type key:ByteArray)(a:Option Addr)(c:Nat)(ps:List (Cg d))(w:World)(hS:Dc w la n V)(hP:CB w d a ps)(af:ps.length<=c)(hs0:BY type)(hs1:BY key) :
  Calls Tryz.prog 7 #[.slice la n cap,.agg #[.string type,.string key,.slice a ps.length c]] w λe w'=>Qq w.heap.size d (Jx n V d type key ps) (GB n V d type key ps) e w'/\Below w.heap.size w w':=by
 have HS:=Aa hS;have HP:=Aa hP;obtain⟨M,hM⟩:∃M,M=Jx n V d type key ps:=⟨_,rfl⟩;obtain⟨x,hx⟩:∃x,x=GB n V d type key ps:=⟨_,rfl⟩;rw[<-hM,<-hx];have K:Hid (M=if x=0 then D9 V (Cr (CQ V) (BZ V) n) d (Du (Cr (CQ V) (BZ V) n) type) key ps else []):=Aa (by rw[hM,hx];rfl)
 have HX:Hid (x=if (DT n V).1≠0 then (DT n V).1 else Lu V (Cr (CQ V) (BZ V) n) d type key ps):=Aa hx
 generalize hW:w.alloc (Obj.cells #[.string type,.string key,.slice a ps.length c] 25)=W;have U:Below w.heap.size w W:=by rw[<-hW];exact BW _ _
 have a0:W.cell? ⟨w.heap.size,0,none⟩=some (.string type):=by rw[<-hW,Ac _ _ _ _ rfl];rfl
 have a1:W.cell? ⟨w.heap.size,1,none⟩=some (.string key):=by rw[<-hW,Ac _ _ _ _ rfl];rfl
 have a2:W.cell? ⟨w.heap.size,2,none⟩=some (.slice a ps.length c):=by rw[<-hW,Ac _ _ _ _ rfl];rfl
 have b:=Jr la n cap V W (hS.kept U);have HBW:=Aa U;clear hS hP hM hx U
 go_enter Tryz.func7,Tryz.ntmps7
 go_wp2_with fail
 clear hW;refine b.mono ?_;clear b;rintro e N ⟨⟨va,vn,vc,rfl,-,hPt⟩,u⟩;have X:Below w.heap.size w N:=HBW.out.trans (u.mono HBW.out.size);have a0:=BR u a0;have a1:=BR u a1;have a2:=BR u a2;have hab:w.heap.size<N.heap.size:=An a0;have B:=Aa hPt;obtain⟨fl,C⟩:∃fl,fl=DT n V:=⟨_,rfl⟩;rw[<-C]at HX B;rw[<-C];have HFL:=Aa C;clear C hPt;unfold Dj;generalize D:N.alloc (Obj.cells #[.int .i64 fl.1,.int .i64 fl.2] 39)=X1;have l:Below N.heap.size N X1:=by rw[<-D];exact BW _ _
 have f0:X1.cell? ⟨N.heap.size,0,none⟩=some (.int .i64 fl.1):=by rw[<-D,Ac _ _ _ _ rfl];rfl
 have b0:=BR l a0;have O:=BR l a1;have b2:=BR l a2;have m:=Aa (X.trans (l.mono X.size));have E:=Aa l;clear u X l a0 a1 a2
 by_cases h0:fl.1=0
 case neg =>
  have hb:(fl.1 != 0)=true:=by simpa using h0
  have r:Hid (x=fl.1/\M = []):=Aa (by
   have e1:x=fl.1:=by rw[HX.out,Af h0]
   refine⟨e1,?_⟩;rw[K.out,Ae (by rw[e1];exact h0)])
  clear h0 HX K B HS HP
  go_wp2_with fail
  clear D
  go_quiet (fail)
  go_wp2_with fail
  exact At (v:=.tuple #[.slice none 0 0,.int .i64 fl.1]) (by simp[results,Tryz.results7,go_sem]) rfl ⟨by rw[r.out.1];exact GJ r.out.2,m.out.trans ((Cz _ _).mono m.out.size)⟩
 have hb:(fl.1 != 0)=false:=by simpa using h0
 obtain⟨rv,Y⟩:=B.out h0;obtain⟨hvn,hvc,Q⟩:=Y.pts;have F:Hid (x=Lu V (Cr (CQ V) (BZ V) n) d type key ps):=Aa (by rw[HX.out,Ae (λh=>h h0)]);have R:(DT n V).1=0:=by rw[<-HFL.out];exact h0
 have HR:Hid (∀nm,¬Ca (Cr (CQ V) (BZ V) n).length (DI (Cr (CQ V) (BZ V) n)) nm<0->PartR n V (Du (Cr (CQ V) (BZ V) n) nm)):=Aa λnm h=>S4 R h;generalize Cr (CQ V) (BZ V) n=L at *;subst hvn;obtain⟨P,hPA,hcA⟩:=Q.check;have b:=Pu va L.length vc P d type key a c ps X1 (hPA.kept E.out) (HP.out.kept m.out) af hs0 hs1;rw[hcA]at b;have HPA:=Aa Y;clear Y Q hPA hcA R B HFL HX h0
 go_wp2_with fail
 clear D;refine b.mono ?_;clear b;rintro e Z ⟨rfl,o⟩;have p:Hid (Below w.heap.size w Z):=Aa (m.out.trans (o.mono m.out.size));have S:Below N.heap.size N Z:=E.out.trans (o.mono E.out.size);have j:=Aa (HPA.out.kept' S);have b0:=BR o b0;have O:=BR o O;have b2:=BR o b2;clear o S HPA E m f0
 by_cases k:cA L.length (DI L) d type key ps=0
 case neg =>
  have hcb:(cA L.length (DI L) d type key ps != 0)=true:=by simpa using k
  have r:Hid (x=cA L.length (DI L) d type key ps/\M = []):=Aa (by
   have e1:x=cA L.length (DI L) d type key ps:=by rw[F.out];unfold Lu;rw[Af k]
   refine⟨e1,?_⟩;rw[K.out,Ae (by rw[e1];exact k)])
  generalize cA L.length (DI L) d type key ps=y at *;clear k F K HS HP j HR
  go_wp2_with fail
  exact At (v:=.tuple #[.slice none 0 0,.int .i64 y]) (by simp[results,Tryz.results7,go_sem]) rfl ⟨by rw[r.out.1];exact GJ r.out.2,p.out⟩
 have hcb:(cA L.length (DI L) d type key ps != 0)=false:=by simpa using k
 obtain⟨hwA,aa,hcR⟩:=Qp k;have ab:=SR hwA;have hne:ps≠[]:=λe=>by
  have:=ab.2;rw[e]at this;simp at this
 have G:Hid (x=if DY V (Du L type) key=true then 0 else 5):=Aa (by rw[F.out];unfold Lu;rw[Ae (λh=>h k)])
 obtain⟨i,hi,hil,ac⟩:=FS aa;obtain⟨g,cap',a1',c1,a2',c2,a3,c3,hpv,-,-,-,hpt⟩:=j.out.pt hil;cases hpv;have ad:=HR.out type (by omega);rw[ac]at ad;have HPR:=Aa ad;have HPT:=Aa hpt;have H:=Aa ac;have HMF:=Aa hi;have z:Hid (∀s,Below Z.heap.size Z s->Calls Tryz.prog 21 #[.slice la n cap,.slice (some ⟨g,0,none⟩) L.length vc,.pointer (some ⟨g,i*4,none⟩),.string key,.slice a ps.length c] s λe w'=>(∃va vc,e= .returned (.slice va (D9 V L d (Du L type) key ps).length vc)/\(D9 V L d (Du L type) key ps).length<=vc/\Ev s.heap.size d w' va vc (D9 V L d (Du L type) key ps))/\Below s.heap.size s w'):=Aa λs h4=>by
  have hB4:Below w.heap.size w s:=p.out.trans (h4.mono p.out.size);have:=N4 la n cap V L (some ⟨g,0,none⟩) L.length vc (λnm h=>HR.out nm (by omega)) d _ rv g type key a c ps s (HS.out.kept hB4) (j.out.kept' h4) rfl hne aa hcR ab.1 (HP.out.kept hB4);rw[hi,Ax]at this;exact this
 have b:=Gh _ (some ⟨g,0,none⟩) L.length vc L rv type Z j.out;have hlp:0<L.length:=by omega
 clear hwA aa hcR ab hne F k hi ac hpt ad j HR HP
 go_wp2_with fail
 refine b.mono ?_;clear b;rintro e w3 ⟨⟨g',hg',rfl⟩,q⟩;cases hg' hlp;rw[GG HMF.out];have ae:=Aa q;have I:Hid (Below w.heap.size w w3):=Aa (p.out.trans (q.mono p.out.size));have O:=BR q O;have b2:=BR q b2;have b:=KT la n cap V (Ci L i) g (i*4) a1' a2' a3 c1 c2 c3 key w3 (HS.out.kept I.out) (HPT.out.kept q) HPR.out;clear q hg' HMF HPT HPR HS p b0
 go_wp2_with fail
 refine b.mono ?_;clear b;rintro e s ⟨rfl,A⟩;have HW4:Hid (Below Z.heap.size Z s):=Aa (ae.out.trans (A.mono ae.out.size));have J:Hid (Below w.heap.size w s):=Aa (I.out.trans (A.mono I.out.size));have O:=BR A O;have b2:=BR A b2;clear A ae I
 cases ht:DY V (Ci L i) key with
 |false =>
  have r:Hid (x=5/\M = []):=Aa (by
   have e1:x=5:=by rw[G.out,H.out,ht];rfl
   exact⟨e1,by rw[K.out,e1];rfl⟩)
  clear ht G K z H O b2
  go_wp2_with fail
  exact At (v:=.tuple #[.slice none 0 0,.int .i64 5]) (by simp[results,Tryz.results7,go_sem]) rfl ⟨by rw[r.out.1];exact GJ r.out.2,J.out⟩
 |true =>
  have r:Hid (x=0/\M=D9 V L d (Du L type) key ps):=Aa (by
   have e1:x=0:=by rw[G.out,H.out,ht];rfl
   exact⟨e1,by rw[K.out,e1,Af rfl]⟩)
  have b:=z.out s HW4.out;have hsz:=J.out.size;clear ht G K z H HW4
  go_wp2_with fail
  refine b.mono ?_;clear b;rintro e w5 ⟨⟨xa,xc,rfl,hxc,T⟩,hw5⟩;have HB5:Hid (Below w.heap.size w w5):=Aa (J.out.trans (hw5.mono hsz));have HO:=Aa (T.base hsz);rw[<-r.out.2]at hxc HO;rw[<-r.out.2];clear hw5 T J O b2
  go_wp2_with fail
  exact At (v:=.tuple #[.slice xa M.length xc,.int .i64 0]) (by simp[results,Tryz.results7,go_sem]) rfl ⟨by rw[r.out.1];exact⟨xa,xc,rfl,hxc,HO.out⟩,HB5.out⟩
theorem R8(la:Option Addr)(n lcap:Nat)(V:Nat->LServ)(L:List PPart)(pa:Option Addr)(pn pc:Nat)(hG:∀nm,¬Ca L.length (DI L) nm<0->GPart n V (Du L nm))(d:Nat)(ih:Kl la n lcap V L pa pn pc d):Kl la n lcap V L pa pn pc (d+1):=by
 intro Z M g typ Y keys ka kc a cap ps w hS m N A o q u hP hY hK O B b;subst N;obtain⟨i,hi,C,D⟩:=FS o;have c:=hG typ o;rw[hi,Ax];rw[D]at c q b ⊢;obtain⟨g',cap',a1,c1,a2,c2,a3,c3,P,-,-,-,v⟩:=m.pt C;cases P;have e:∀j,j<ps.length->¬BX (Ci L i).fs.length (De (Ci L i)) (BT (BS ps j))<0/\Rz L d (EQ (Ci L i) (BT (BS ps j))) (subs (BS ps j)):=λj z=>IW q z;have Q:0<ps.length:=List.length_pos_iff.2 A;obtain⟨s,hs,-,-⟩:=c.r.owner _ (e 0 Q).1;obtain⟨lb,lo,S,-⟩:=hS.2 s hs;subst S;have T:Hid (∃Z M,Parts Z w (.slice (some ⟨g,0,none⟩) L.length pc) L M):=Aa ⟨Z,M,m⟩;have U:0<L.length:=by omega
 have W:ps.length<=60:=u.1;have hps':ps.length<=9223372036854775807:=by omega
 have X:=Aa ih;clear m q o D hG ih hi C A;generalize Ci L i=p at *;have aa:=v.c3;have ab:p.hs.length<=5:=c.few;have ac:p.os.length=p.fs.length:=c.r.os;have HS:=Aa hS;have E:=Aa v;have ad:=Aa c;have HP:=Aa hP;have ae:=Aa u;have HY:=Aa hY;have HK:=Aa hK;have af:=Aa B;have h:Hid (∀j,j<ps.length->¬BX p.fs.length (De p) (BT (BS ps j))<0/\Rz L d (EQ p (BT (BS ps j))) (subs (BS ps j))):=Aa e;obtain⟨G,x⟩:∃G,G=DA V L (d+1) p keys ps:=⟨_,rfl⟩;rw[<-x]at b ⊢;have y:Hid (p.hs.map (CW p keys ps)++ps.flatMap (DF V L (DA V L d) p keys)=G):=Aa (by rw[x,I8]);have F:(p.hs.map (CW p keys ps)).length+(ps.flatMap (DF V L (DA V L d) p keys)).length<=1000:=by rw[<-Ay,y.out];exact b
 have H:=Aa F;clear x b F hS v c hP u hY hK B e
 go_enter Tryz.func24,Tryz.ntmps24
 go_upto_block 0 with fail
 clear aa;refine N8 (p:=p) (keys:=keys) (ps:=ps) (Y:=Y) E ac HP (Aa λj z=>by have:=(h.out j z).1;omega) W ab HY HK O (Aa ?_);intro u13 u14 u16 u17 u18 u20 u41 u42 u43 u44 u45 u46 u47 u48 u49 u50 u51 u52 u53 u54 u55 u56 u57 u58 u59 u60 u61 u62 u63 u64 u65 u66 u67 u68 u69 u70 u71 u72 u73 u74 u75 u76 u77 u78 u79 u80 u81 u82 u83 u84 u85 u86 u87 u88 u89 u90 u91 u92 u93 u94 u95 u96 u97 u98 u99 u100 u101 u102 u103 u104 u105 u106 u107 u108 u109 u110 u111 u112 u113 u114 w1 vq kv fv hQ hB;obtain⟨va,vc,hva,-⟩:=hQ.slice;subst hva;have HQ:=Aa hQ;have HB:=Aa hB;clear hQ hB;rename_i Kx k;refine k _ _ ?_;clear k;obtain⟨R,I⟩:∃R,R=p.hs.map (CW p keys ps):=⟨_,rfl⟩;rw[<-I]at HQ y H ⊢;clear I
 go_upto_block 6 with fail
 refine Nj (V:=V) (L:=L) (p:=p) (keys:=keys) (ps:=ps) (Y:=Y) (R:=R) HS T U E ad X HP ae (Aa λj z=>⟨by have:=(h.out j z).1;omega,(h.out j z).2⟩) HY HK af HB HQ H.out (Aa ?_);intro y22 y23 y24 y25 y27 y28 y30 y32 y33 y35 y117 y118 y119 y120 y121 y122 y123 y124 y125 y126 y127 y128 y129 y130 y131 y132 y133 y134 y135 y136 y137 y138 y139 y140 y141 y142 y143 y144 y145 y146 y147 y148 y149 y150 y151 y152 y153 y154 y155 y156 y157 y158 y159 y160 y161 y162 y163 y164 y165 y166 y167 y168 y169 y170 y171 y172 y173 y174 y175 y176 y177 y178 y179 y180 y181 y182 y183 y184 y185 y186 y187 y188 y189 y190 y191 y192 y193 y194 y195 y196 y197 y198 y199 y200 y201 y202 y203 y204 y205 y206 y207 y208 y209 y210 y211 y212 y213 y214 y215 y216 y217 y218 y219 y220 y221 y222 y223 y224 y225 y226 y227 y228 y229 w2 vq2 kv2 fv2 l J;rw[y.out]at l;obtain⟨va2,vc2,K,-⟩:=l.slice;subst K;have HQ2:=Aa l;have HB2:=Aa J;clear l J HQ HB;rename_i Kx k;refine k _ _ ?_;clear k
 go_wp2_with fail
 go_ret;exact⟨⟨_,rfl,kv2,fv2,HQ2.out⟩,HB2.out⟩
theorem RP(la:Option Addr)(n lcap:Nat)(V:Nat->LServ)(L:List PPart)(pa:Option Addr)(pn pc:Nat):Kl la n lcap V L pa pn pc 0:=by
 intro Z c g typ Y keys ka kc a cap ps w _ _ _ b;exact absurd (MN ps) b
theorem Ma(la:Option Addr)(n lcap:Nat)(V:Nat->LServ)(L:List PPart)(pa:Option Addr)(pn pc:Nat)(a:∀nm,¬Ca L.length (DI L) nm<0->GPart n V (Du L nm)):∀d,Kl la n lcap V L pa pn pc d
 | 0=>RP la n lcap V L pa pn pc
 | d+1=>R8 la n lcap V L pa pn pc a d (Ma la n lcap V L pa pn pc a d)
structure RAskP (W:World) (key:ByteArray) (R:List PReq) (St:World->Prop) (j:Nat) (x:Nat->Value) (w:World):Prop where
 st:St w
 low:Below W.heap.size W w
 b1:j=1->∃b,x 0= .slice (some ⟨b,0,none⟩) 1 1/\DX w (some ⟨b,0,none⟩) [key]
 b2:2<=j->∃N kv fv,QRow N (λ_=>False) w (x 1) R kv fv
 b3:j=3->x 2=x 1
theorem RAskP.below{W:World}{key:ByteArray}{R:List PReq}{a:World->Prop}(c:∀w w',a w->Below w.heap.size w w'->a w'){j:Nat}{x:Nat->Value}{w w':World}(h:RAskP W key R a j x w)(hB:Below w.heap.size w w'):RAskP W key R a j x w' :=
 ⟨c _ _ h.st hB,h.low.trans (hB.mono h.low.size),λd=>let ⟨b,e,t⟩:=h.b1 d;⟨b,e,t.kept hB⟩,λd=>let ⟨N,kv,fv,hq⟩:=h.b2 d;⟨N,kv,fv,hq.kept hB⟩,h.b3⟩
theorem T0{w:World}{b:Nat}{key:ByteArray}(hs:BY key)(hb:w.heap[b]? = some (.cells #[.string key] 9 (0,0))):DX w (some ⟨b,0,none⟩) [key] :=
 ⟨show 1<=maxLen by decide,λi hi=>by
  obtain rfl:i=0:=by have:i<1:=hi;omega
  exact⟨b,0,rfl,by simp[World.cell?,hb];rfl,hs⟩⟩
theorem SX{n:Nat}{V:Nat->LServ}{d:Nat}{type key:ByteArray}{ps:List (Cg d)}(h:GB n V d type key ps=0):(DA V (Cr (CQ V) (BZ V) n) d (Du (Cr (CQ V) (BZ V) n) type) [key] ps).length<=1000:=by
 obtain⟨h0,hc,-⟩:=Ks.1 h;obtain⟨a,b,c⟩:=Qp hc;have h1:=Kg h0 d type [key] ps [] b c;have h2:=G9 d ps;have h3:=OC a;have e:=(E5 (GO h0)).1;have g:GQ d ps*n<=61*5:=Nat.mul_le_mul (by omega) e;omega
theorem Tl:Qy 10:=by
 intro la n cap V d type key a c ps w hS hP hcap hs0 hs1;have HS:=Aa hS;have HP:=Aa hP;obtain⟨M,hM⟩:∃M,M=Jx n V d type key ps:=⟨_,rfl⟩;obtain⟨R,hR⟩:∃R,R=Tt n V d type key ps:=⟨_,rfl⟩;obtain⟨x,hx⟩:∃x,x=GB n V d type key ps:=⟨_,rfl⟩;have HXE:=Aa hx;have HR:Hid (R=if x=0 then DA V (Cr (CQ V) (BZ V) n) d (Du (Cr (CQ V) (BZ V) n) type) [key] ps else []):=Aa (by rw[hR,hx];rfl)
 have HM:Hid (x≠0->M = []):=Aa λh=>by rw[hM];unfold Jx;rw[Ae (by rw[<-hx];exact h)]
 generalize hW:w.alloc (Obj.cells #[.string type,.string key,.slice a ps.length c] 25)=W;have z:Below w.heap.size w W:=by rw[<-hW];exact BW _ _
 have hA:W.heap[w.heap.size]? = some (.cells #[.string type,.string key,.slice a ps.length c] 25 (0,0)):=by rw[<-hW];exact Ap _ _
 have k:=Rd la n cap V d type key a c ps W (hS.kept z) (hP.kept z) hcap hs0 hs1;rw[<-hM,<-hx]at k;rw[<-hM,<-hx,<-hR];obtain⟨a0,a1,a2⟩:W.cell? ⟨w.heap.size,0,none⟩=some (.string type)/\W.cell? ⟨w.heap.size,1,none⟩=some (.string key)/\W.cell? ⟨w.heap.size,2,none⟩=some (.slice a ps.length c):=by simp[World.cell?,hA]
 have K:=Aa z;have HA:=Aa hA;clear hS hP hM hx hR z hA
 go_enter Tryz.func10,Tryz.ntmps10
 go_wp2_with fail
 clear hW;refine k.mono ?_;clear k;rintro e w1 ⟨⟨va,vc,rfl,hvc,F⟩,N⟩;have m:=Aa (K.out.trans (N.mono K.out.size));have A:=Aa ((N.block _ (Ag HA.out)).trans HA.out);have O:=Aa F.free.at;have HVC:=Aa hvc;clear N F hvc K HA a0 a1 a2
 by_cases h0:x=0
 case neg =>
  have hb:(x != 0)=true:=by simpa using h0
  have HE:Hid (M = []/\R = []):=Aa ⟨HM.out h0,by rw[HR.out,Ae h0]⟩;clear h0 HM HR HS HP A O HVC
  go_wp2_with fail
  exact At (v:=.tuple #[.slice none 0 0,.slice none 0 0,.int .i64 x]) (by simp[results,Tryz.results10,go_sem]) rfl ⟨by rw[HE.out.1,HE.out.2];exact⟨none,0,none,0,rfl,Aj _,Aj _,Dg.none,Ff.none⟩,m.out⟩
 have hb:(x != 0)=false:=by simpa using h0
 have P:GB n V d type key ps=0:=by rw[<-HXE.out];exact h0
 have G:=SX P;obtain⟨o,hcA,-⟩:=Ks.1 P;obtain⟨hwA,p,hcR⟩:=Qp hcA;have Q:=SR hwA;have hne:ps≠[]:=λe=>by
  have:=Q.2;rw[e]at this;simp at this
 have B:Hid (R=DA V (Cr (CQ V) (BZ V) n) d (Du (Cr (CQ V) (BZ V) n) type) [key] ps):=Aa (by rw[HR.out,Af h0]);have H:Hid (∀nm,¬Ca (Cr (CQ V) (BZ V) n).length (DI (Cr (CQ V) (BZ V) n)) nm<0->GPart n V (Du (Cr (CQ V) (BZ V) n) nm)):=Aa λnm h=>Ud o h;have k:=Jr la n cap V w1 (HS.out.kept m.out);have HFW:Hid (R.length<=1000):=Aa (by rw[B.out];exact G);have I:=Aa o;have S:=Aa p;have HCR:=Aa hcR;have HSM:=Aa Q.1;have HNE:=Aa hne;have H0:=Aa h0;clear P G hcA hwA p hcR Q hne o HR HM HXE h0;subst x
 go_wp2_with fail
 refine k.mono ?_;clear k;rintro e w2 ⟨⟨va2,vn2,T,rfl,-,hPt⟩,C⟩;obtain⟨rv,U⟩:=hPt I.out;have Y:=Aa (m.out.trans (C.mono m.out.size));have Z:=Aa ((C.block _ (Ag A.out)).trans A.out);have HG2:=Aa (O.out.kept C);have hvn:=U.shape;have D:=Aa U;subst hvn;obtain⟨L,hL⟩:∃L,L=Cr (CQ V) (BZ V) n:=⟨_,rfl⟩;rw[<-hL]at D B H S HCR ⊢;have p : ¬Ca L.length (DI L) type<0:=by have:=S.out;omega
 obtain⟨i,hi,hil,-⟩:=FS p;have hlp:0<L.length:=by omega
 obtain⟨g,cap',a1',c1,a2',c2,a3,c3,hpv,-,-,-,-⟩:=D.out.pt hil;cases hpv;have HASK:=Aa (Ma la n cap V L (some ⟨g,0,none⟩) L.length T (λnm h=>H.out nm (by omega)) d);have HI:=Aa hi;clear hPt C m A O U hL p hi hil;obtain⟨fl,hfl⟩:∃fl,fl=DT n V:=⟨_,rfl⟩;rw[<-hfl];clear hfl I;unfold Dj
 go_upto_region 5 with fail
 generalize hX:w2.alloc (Obj.cells #[.int .i64 fl.1,.int .i64 fl.2] 39)=X;have r:Below w2.heap.size w2 X:=by rw[<-hX];exact BW _ _
 have E:=Aa (Y.out.trans (r.mono Y.out.size));have HAX:=Aa ((r.block _ (Ag Z.out)).trans Z.out);have HGX:=Aa (HG2.out.kept r);have HPX:=Aa (D.out.kept' r);clear hX r Y Z HG2 D;refine TH (RAskP X key R (λs=>s.heap[w.heap.size]? = some (.cells #[.string type,.string key,.slice a ps.length c] 25 (0,0)))) (ba:=w.heap.size) (va:=va) (vn:=M.length) (vc:=vc) (pn:=L.length) (pc:=T) (pp:=⟨g,i*4,none⟩) (ty:=type) (key:=key) (sa:=a) (sn:=ps.length) (sc:=c) (by kernel_rfl) rfl rfl rfl rfl ?_ ?_ ?_ ?_ ?_ ?_ ?_ ?_
 ·intro x9
  exact⟨HAX.out,(Aq _ _).drew,λh=>absurd h (by omega),λh=>absurd h (by omega),λh=>absurd h (by omega)⟩
 ·intro j x9 s _ h
  have:=h.st;simp[World.cell?,this]
 ·intro x9 s h x' e1 _
  have hb:=BW s (.cells #[.string key] 9);exact⟨(hb.block _ (Ag h.st)).trans h.st,h.low.trans (hb.mono h.low.size),λ_=>⟨_,e1,T0 hs1 (Ap _ _)⟩,λh=>absurd h (by omega),λh=>absurd h (by omega)⟩
 ·intro x9 s h
  obtain⟨b,hb0,hb1⟩:=h.b1 rfl;have hW:Below w.heap.size w s:=E.out.trans (h.low.mono E.out.size);have k:=HASK.out _ rv g type (λ_=>False) [key] (some ⟨b,0,none⟩) 1 a c ps s (HS.out.kept hW) (HPX.out.kept' h.low) rfl HNE.out (by have:=S.out;omega) HCR.out HSM.out (HP.out.kept hW) (λq hq=>hq.elim) (hb1.free λ_ _ hx=>hx) (Aj 1) (by simp) (by rw[<-B.out];exact HFW.out);rw[HI.out,Ax,<-B.out]at k;rw[hb0];refine k.mono λe w' hh=>?_;obtain⟨⟨v,kv1,fv1,rfl,hq⟩,hb⟩:=hh;refine⟨v,rfl,λx' e1 e2=>?_⟩;have h2:=h.below (λw w' u aa=>(aa.block _ (Ag u)).trans u) hb;exact⟨h2.st,h2.low,λhj=>absurd hj (by omega),λ_=>⟨_,kv1,fv1,by rw[e1];exact hq⟩,λhj=>absurd hj (by omega)⟩
 ·intro x9 s h x' e1 e2
  exact⟨h.st,h.low,λhj=>absurd hj (by omega),λ_=>by rw[e2 1 (by decide)];exact h.b2 (by omega),λ_=>by rw[e1,e2 1 (by decide)]⟩
 ·intro j x9 s h
  refine(Gh _ (some ⟨g,0,none⟩) L.length T L rv type s (HPX.out.kept' h.low)).mono λe w' hh=>?_;obtain⟨⟨g',hg',rfl⟩,hb⟩:=hh;cases hg' hlp;rw[GG HI.out];exact⟨rfl,hb⟩
 ·intro j x9 s w' h hb
  exact h.below (λw w' u aa=>(aa.block _ (Ag u)).trans u) hb
 intro st w5 h4 h6 l;obtain⟨N5,kv5,fv5,y⟩:=l.b2 (by omega);have hx5:st 5=st 37:=l.b3 rfl;replace y:QRow N5 (λ_=>False) w5 (st 37) R kv5 fv5:=y;rw[<-hx5]at y;obtain⟨qa,qc,hv5,hqc,J⟩:=y.out (by have:=HFW.out;unfold maxLen;omega);have HG5:=Aa (HGX.out.kept l.low);have HB5:=Aa (E.out.trans (l.low.mono E.out.size));have HRQ:=Aa J;clear l y hx5 J;simp only[Cn,Act.put,Au,AD,AE,h4,h6,hv5];clear h4 h6 hv5
 go_wp2_with fail
 exact At (v:=.tuple #[.slice va M.length vc,.slice qa R.length qc,.int .i64 0]) (by simp[results,Tryz.results10,go_sem]) rfl ⟨⟨va,vc,qa,qc,rfl,HVC.out,hqc,HG5.out,HRQ.out⟩,HB5.out⟩
end Go.Proofs.YtjjggefmmeminabGreat
