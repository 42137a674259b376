import Derived.Test.YtjjggefmmeminabGreatMgAddW
import Derived.Test.YtjjggefmmeminabGreatJMn
set_option maxRecDepth 100000
set_option maxHeartbeats 4000000
namespace Go.Proofs.YtjjggefmmeminabGreat
open Go.RowKit Go.Sort Go.PlainAid
theorem NR{svc:Int}{L:List PPart}{S:Nat->PSeen}{n k:Nat}(hk:k<n)(h:Gm (Dh svc L S k) (S k)≠0)(hb:∀j,j<k->Gm (Dh svc L S j) (S j)=0):I3 svc L S n=Gm (Dh svc L S k) (S k):=by
 unfold I3;rw[Do (g:=λk=>Gm (Dh svc L S k) (S k)) hk h hb]
theorem Me{svc:Int}{L:List PPart}{S:Nat->PSeen}{n:Nat}(hb:∀j,j<n->Gm (Dh svc L S j) (S j)=0):I3 svc L S n=0:=by
 unfold I3;rw[Dm (g:=λk=>Gm (Dh svc L S k) (S k)) hb]
theorem JU(Z:Nat->Prop)(v:Value)(L:List PPart)(rv:Nat->Nat->Value)(svc:Int)(s:LServ)(q:Nat)(w:World)(hP:Parts Z w v L rv)(hZ:∀b,Z b->b<w.heap.size)(hR:Ik L)(hs:ServOk w s)(U:(JV s).1=0)(O:Few L q)(hq:q<=50)(ak:(Lit.int .i64 svc).wf=true) :
  Calls Tryz.prog 30 #[v,.int .i64 svc,.agg #[.slice s.ta s.nt s.tcap,.slice s.ca s.nc s.ccap,.slice s.xa s.nx s.xcap]] w λe w' => ∃va vn vc,e= .returned (.tuple #[.slice va vn vc,.int .i64 (I3 svc L (B7 s) s.nt)])/\(I3 svc L (B7 s) s.nt=0->∃aa,Parts Z w' (.slice va vn vc) (Dh svc L (B7 s) s.nt) aa)/\Keep Z w w':=by
 obtain⟨a,cap,hv,-⟩:=hP.slice;subst hv;have ab:DB s.nt (B7 s):=D2 (Dn U) s.nc;have hn8:s.nt<=8:=ab.few;have al:∀i,i<s.nt->(B7 s i).nf<=10:=λi hi=>(ab.fld i hi).few;have am:=Aa al;have HS:=Aa hs;have HP:=Aa hP;have HZ:=Aa hZ;have HR:=Aa hR;have HFW:=Aa O;have HOK:=Aa U;clear hs hP hZ hR O ab al U;generalize hW:w.alloc (Obj.cells #[.slice s.ta s.nt s.tcap,.slice s.ca s.nc s.ccap,.slice s.xa s.nx s.xcap] 81)=W;have F:Below w.heap.size w W:=by rw[<-hW];exact BW _ _
 have b0:W.cell? ⟨w.heap.size,0,none⟩=some (.slice s.ta s.nt s.tcap):=by rw[<-hW,Ac _ _ _ _ rfl];rfl
 have b1:W.cell? ⟨w.heap.size,1,none⟩=some (.slice s.ca s.nc s.ccap):=by rw[<-hW,Ac _ _ _ _ rfl];rfl
 have c:=QG s.ta s.ca s.nt s.tcap s.nc s.ccap s.T s.C W (HS.out.types.kept F) (HS.out.changes.kept F) HS.out.tcap;have an:=Aa F;clear F
 go_enter Tryz.func30,Tryz.ntmps30
 go_wp2_with fail
 clear hW;refine c.mono ?_;clear c;rintro e w1 ⟨⟨u,rfl,-,P⟩,hw1⟩;obtain⟨fv,ov,hS⟩:=P HOK.out;clear P;obtain⟨ua,uc,hu,-⟩:=hS.slice;subst hu;have HS1:Hid (Seens w1 W.heap.size (.slice ua s.nt uc) s.nt fv ov (B7 s)):=hS;have HB1:Hid (Below w.heap.size w w1):=an.out.trans (hw1.mono an.out.size);have hz1:w.heap.size<W.heap.size:=An b0;clear hS hw1 b0 b1;generalize hr:EZ s.nt s.T s.nc s.C=r;clear hr;unfold Dj;generalize hX:w1.alloc (Obj.cells #[.int .i64 r.1,.int .i64 r.2] 39)=X;have ac:Below w1.heap.size w1 X:=by rw[<-hX];exact BW _ _
 obtain⟨Y,o⟩:∃Y:Nat->Prop,Y=λb=>Z b\/(w.heap.size<=b/\b<X.heap.size):=⟨_,rfl⟩;have G:Below w.heap.size w X:=HB1.out.trans (ac.mono HB1.out.size);have HPX:Hid (Parts Y X (.slice a L.length cap) L rv):=by rw[o];exact HP.out.kept G
 have ad:Hid (∀b,Y b->b<X.heap.size):=λb hb=>by
  rw[o]at hb;rcases hb with hb|hb
  ·exact Ah (HZ.out b hb) G.size
  ·exact hb.2
 have HKX:Hid (Keep Z w X):=Keep.of G HZ.out;have HYZ:Hid (∀{a b:World},Keep Y a b->Keep Z a b):=λh=>h.mono λb hb=>by rw[o];exact .inl hb
 have HPZ:Hid (∀{a:World} {v:Value} {L':List PPart} {r:Nat->Nat->Value},Parts Y a v L' r->Parts Z a v L' r):=λh=>h.less λb hb=>by rw[o];exact .inl hb
 have HSX:Hid (∀w',Keep Y X w'->Seens w' W.heap.size (.slice ua s.nt uc) s.nt fv ov (B7 s)):=λw' hk=>(HS1.out.kept ac).keep λb h1 h2=>hk.block b (by rw[o];exact .inr ⟨by omega,h2⟩);clear ac G o HS1
 go_wp2_with fail
 clear hX
 go_loopw [0,24] (λp i wr => ∃k:Nat,k<=s.nt/\i= .int .i64 k/\Hid (∀j,j<k->Gm (Dh svc L (B7 s) j) (B7 s j)=0)/\Keep Y X wr/\∃rk,Parts Y wr p (Dh svc L (B7 s) k) rk) (λ_ i _=>s.nt - (intOf i).toNat)
 case atStart=>exact⟨0,Ai _,rfl,(λj hj=>absurd hj (Ak _)),Keep.refl _ _,rv,HPX.out⟩
 case round =>
  clear HPX;obtain⟨k,hk,rfl,c,x,rk,z⟩:=hrel;have ae:=Aa c;clear c;obtain⟨pa,pc,hpv,-⟩:=z.slice;subst hpv
  by_cases m:k<s.nt
  ·have y:=HSX.out wr x
   obtain⟨g,cap',hv,-,-⟩:=y.ptr m;cases hv;obtain⟨q0,q1,q2,q3⟩:=y.cells m;obtain⟨a1,c1,e1,-⟩:=(y.fields k m).slice;obtain⟨a2,c2,e2,-⟩:=(y.owns k m).slice;have hgd:=y.good k m;rw[e1]at q1;rw[e2]at q3;have hlt':(k:Int)<(s.nt:Int):=by omega
   have hk0:(0:Int)<=(k:Int):=by omega
   generalize hV:wr.alloc (Obj.cells #[.string (B7 s k).name,.slice a1 (B7 s k).nf c1,.string (B7 s k).own,.slice a2 (B7 s k).nf c2] 140)=V;have H:Below wr.heap.size wr V:=by rw[<-hV];exact BW _ _
   have I:V.heap[wr.heap.size]? = some (.cells #[.string (B7 s k).name,.slice a1 (B7 s k).nf c1,.string (B7 s k).own,.slice a2 (B7 s k).nf c2] 140 (0,0)):=by rw[<-hV];exact Ap _ _
   have m0:V.cell? ⟨wr.heap.size,0,none⟩=some (.string (B7 s k).name):=by simp[World.cell?,I]
   have af:∀b,Y b->b<wr.heap.size:=λb hb=>Ah (ad.out b hb) x.size;obtain⟨E,l⟩:∃E:Nat->Prop,E=λb=>Y b\/(wr.heap.size<=b/\b<V.heap.size):=⟨_,rfl⟩;have hPV:Parts E V (.slice pa (Dh svc L (B7 s) k).length pc) (Dh svc L (B7 s) k) rk:=by rw[l];exact z.kept H
   have A:∀b,E b->b<V.heap.size:=λb hb=>by
    rw[l]at hb;rcases hb with hb|hb
    ·exact Ah (af b hb) H.size
    ·exact hb.2
   have Q:E wr.heap.size:=by rw[l];exact .inr ⟨Aj _,Ag I⟩
   have ag:Hid (∀{a b:World},Keep E a b->Keep Y a b):=λh=>h.mono λb hb=>by rw[l];exact .inl hb
   have HPY:Hid (∀{a:World} {v:Value} {L':List PPart} {r:Nat->Nat->Value},Parts E a v L' r->Parts Y a v L' r):=λh=>h.less λb hb=>by rw[l];exact .inl hb
   have HKV:Hid (Keep Y X V):=x.trans (Keep.of H af);have ah:=HFW.out.fold (svc:=svc) (S:=B7 s) k (λq' hq'=>am.out q' (by omega));have c:=Nd E _ (Dh svc L (B7 s) k) rk (B7 s k).name V hPV A (Jm HR.out k) (by have:=ah.len;omega) hgd.1;have HFI:=Aa (ah.ins (B7 s k).name);have B:=Aa hgd;have E1:=Aa e1;have E2:=Aa e2;have HBX:=Aa I;have HY2V:=Aa A;have HY2X:=Aa Q;clear y hgd e1 e2 hPV A Q af H ah I x z l
   go_wp2_with fail
   clear hV q0 q1 q2 q3;refine c.mono ?_;clear c m0;rintro e D ⟨⟨v3,rv3,rfl,ai⟩,J⟩;obtain⟨K,-⟩:=GP (L:=Dh svc L (B7 s) k) (s:=(B7 s k).name);obtain⟨g3,R,hv3,-⟩:=ai.ptr K;subst hv3;obtain⟨f1,f2,f3⟩:=HFI.out.2 _ K;have n:=(J.block _ HY2X.out).trans HBX.out;have x0:D.cell? ⟨wr.heap.size,0,none⟩=some (.string (B7 s k).name):=by simp[World.cell?,n]
   have x1:D.cell? ⟨wr.heap.size,1,none⟩=some (.slice a1 (B7 s k).nf c1):=by simp[World.cell?,n]
   have x2:D.cell? ⟨wr.heap.size,2,none⟩=some (.string (B7 s k).own):=by simp[World.cell?,n]
   have x3:D.cell? ⟨wr.heap.size,3,none⟩=some (.slice a2 (B7 s k).nf c2):=by simp[World.cell?,n]
   have M:Hid (Keep Y X D):=HKV.out.trans (ag.out J);have hY3:∀b,E b->b<D.heap.size:=λb hb=>Ah (HY2V.out b hb) J.size;have c:∀d:Nat,Calls Tryz.prog 58 #[.pointer (some ⟨g3,pos (Dh svc L (B7 s) k) (B7 s k).name*4,none⟩),.int .i64 svc,.agg #[.string (B7 s k).name,.slice a1 (B7 s k).nf c1,.string (B7 s k).own,.slice a2 (B7 s k).nf c2]] (D.drewN d) λe w'=>e= .returned (.int .i64 (Gm (Dh svc L (B7 s) k) (B7 s k)))/\(Gm (Dh svc L (B7 s) k) (B7 s k)=0->∃aa,Parts Y w' (.slice (some ⟨g3,0,none⟩) (ins (Dh svc L (B7 s) k) (B7 s k).name).length R) (Dh svc L (B7 s) (k+1)) aa)/\Keep Y X w':=λd =>
    (OE E g3 R _ _ rv3 svc (B7 s k) a1 a2 c1 c2 (D.drewN d) (ai.kept' (Cz D d)) (λb hb=>hY3 b hb) K (λw' hk'=>by
     have hSw:=HSX.out w' (M.out.trans ((Keep.of (Cz D d) (λb hb=>Ah (ad.out b hb) M.out.size)).trans (ag.out hk')));obtain⟨a8,c8,e8,-,hF8⟩:=(hSw.fields k m).fieldsAt B.out.2.2.1 B.out.2.2.2.1;obtain⟨a9,c9,e9,-,hK9⟩:=(hSw.owns k m).keysAt B.out.2.2.1 B.out.2.2.2.2;rw[E1.out]at e8;rw[E2.out]at e9;cases e8;cases e9;exact⟨hF8,hK9⟩) B.out.2.1 ak (am.out k m) (by omega) (by omega) (by omega)).mono λe w' h=>⟨h.1,λh0=>let ⟨r,hr⟩:=h.2.1 h0;⟨r,HPY.out hr⟩,M.out.trans ((Keep.of (Cz D d) (λb hb=>Ah (ad.out b hb) M.out.size)).trans (ag.out h.2.2))⟩
   have HPI:=Aa K;have hpI:(pos (Dh svc L (B7 s) k) (B7 s k).name:Int)<((ins (Dh svc L (B7 s) k) (B7 s k).name).length:Int):=by omega
   have hp0:(0:Int)<=(pos (Dh svc L (B7 s) k) (B7 s k).name:Int):=by omega
   have hcl1:=c 1;clear c ai J n hY3 f1 f2 f3;generalize hps:pos (Dh svc L (B7 s) k) (B7 s k).name=ps at *;generalize hil:(ins (Dh svc L (B7 s) k) (B7 s k).name).length=il at *;generalize hee:Gm (Dh svc L (B7 s) k) (B7 s k)=ee at *;have aj:=Aa hee;clear hps hil hee
   go_wp2_with fail
   go_region_law (go_simp;go_at_call 58;refine hcl1.mono ?_;rintro e w4 ⟨rfl,hP4,hK4⟩;have HP4:=Aa hP4;have HK4:=Aa hK4;clear hP4 hK4)
   by_cases h0:ee=0
   case neg =>
    have hb:(ee != 0)=true:=by simpa using h0
    have N:Hid (I3 svc L (B7 s) s.nt=ee):=by
     have:=NR (svc:=svc) (L:=L) (S:=B7 s) m (by rw[aj.out];exact h0) ae.out;rw[this];exact aj.out
    have H0:=Aa h0;clear h0
    go_wp2_with fail
    go_ret2
    exact⟨none,0,0,by rw[N.out];rfl,λh=>absurd (by rw[N.out]at h;exact h) H0.out,HKX.out.trans (HYZ.out HK4.out)⟩
   have hb:(ee != 0)=false:=by simpa using h0
   have HP5:=Aa (HP4.out h0);have HCL2:Hid (∀j,j<k+1->Gm (Dh svc L (B7 s) j) (B7 s j)=0):=λj hj=>by
    rcases Nat.lt_succ_iff_lt_or_eq.1 hj with h|h
    ·exact ae.out j h
    ·rw[h,aj.out];exact h0
   clear h0 HP4
   go_wp2_with fail
   go_roundw
   case rel=>exact⟨k+1,by omega,by go_num,HCL2,HK4.out,HP5.out⟩
   case measure=>simp[intOf];omega
  ·have hkn:k=s.nt:=by omega
   subst hkn;have N:Hid (I3 svc L (B7 s) s.nt=0):=Me ae.out;have HPR:=Aa z;have HKR:=Aa x;clear z x
   go_wp2_with fail
   go_ret2
   exact⟨_,_,_,by rw[N.out];rfl,λ_=>⟨rk,HPZ.out HPR.out⟩,HKX.out.trans (HYZ.out HKR.out)⟩
theorem Parts.plus{Z:Nat->Prop}{w:World}{v:Value}{L:List PPart}{g:Nat->Nat->Value}(h:Parts Z w v L g){bp t:Nat}{c:Array Value}(hb:w.heap[bp]? = some (.cells c t (0,0)))(h1:t≠99)(h2:t≠113)(h3:t≠92):Parts (λb=>Z b\/b=bp) w v L g :=
 ⟨h.nmax,h.row,h.rows,h.apart,λb a d=>d.elim (h.freeV b a) (λe=>h.row.box_ne (b:=bp) (by rw[a,e]) hb h1.symm rfl),λj i hc hi b a d=>d.elim (h.free j i hc hi b a) (λe=>(h.rows j i hc hi).box_ne (b:=bp) (by rw[a,e]) hb (by unfold et;split;exact h2.symm;exact h3.symm) rfl),h.good⟩
theorem Sf:∀i:Nat,i<=5->(Lit.int .i64 (i:Int)).wf=true
 | 0,_=>rfl
 | 1,_=>rfl
 | 2,_=>rfl
 | 3,_=>rfl
 | 4,_=>rfl
 | 5,_=>rfl
 | i+6,h=>absurd h (by omega)
theorem Tryz.e29:∀args w,(callFunc 29 args).run Tryz.prog w= .ok (.enter 29 args) w:=AN Tryz.func29 (by kernel_rfl) rfl
theorem SA(Z:Nat->Prop)(a:Option Addr)(n cap i bp bl:Nat)(V:Nat->LServ)(va:Option Addr)(vn vc:Nat)(s:Nat->Nat->Value)(w:World)(hS:Dc w a n V)(I:w.heap[bl]? = some (.cells #[.slice a n cap] 22 (0,0)))(x:w.heap[bp]? = some (.cells #[.slice va vn vc] 37 (0,0)))(J:Parts Z w (.slice va vn vc) (Cr (CQ V) (BZ V) i) s)(C : ¬Z bp)(D:∀b,Z b->b<w.heap.size)(hi:i<n)(hn:n<=5)(m:∀j,j<n->(JV (V j)).1=0) :
  Calls Tryz.prog 29 #[.int .i64 (i:Int),.pointer (some ⟨bp,0,none⟩),.pointer (some ⟨bl,0,none⟩)] w λe w'=>e= .returned (.int .i64 (Gw (CQ V) (BZ V) i))/\(∃va vn vc,w'.heap[bp]? = some (.cells #[.slice va vn vc] 37 (0,0))/\(Gw (CQ V) (BZ V) i=0->∃s,Parts Z w' (.slice va vn vc) (Cr (CQ V) (BZ V) (i+1)) s))/\Keep Z w w':=by
 obtain⟨b,o,rfl,hs⟩:=hS.2 i hi;have c0:=hs.c0;have c1:=hs.c1;have c2:=hs.c2;have L:(i:Int)<(n:Int):=by omega
 have M:(0:Int)<=(i:Int):=by omega
 have T:w.cell? ⟨bl,0,none⟩=some (.slice (some ⟨b,o,none⟩) n cap):=by simp[World.cell?,I]
 have U:w.cell? ⟨bp,0,none⟩=some (.slice va vn vc):=by simp[World.cell?,x]
 have l:=My (n:=CQ V) (S:=BZ V) i (λq hq=>(Dn (m q (by omega))).few) (λq hq j N=>((D2 (Dn (m q (by omega))) (V q).nc).fld j N).few);have E:Calls Tryz.prog 30 #[.slice va vn vc,.int .i64 (i:Int),.agg #[.slice (V i).ta (V i).nt (V i).tcap,.slice (V i).ca (V i).nc (V i).ccap,.slice (V i).xa (V i).nx (V i).xcap]] w.drew λe w'=>_ :=
  JU (λb=>Z b\/b=bp) _ _ s (i:Int) (V i) (8*i) w.drew ((J.plus x (by decide) (by decide) (by decide)).kept' (Cz w 1)) (λb hb=>hb.elim (D b) (λe=>by rw[e];exact Ag x)) (Kj i) (hs.ok.kept (Cz w 1)) (m i hi) l (by omega) (Sf i (by omega))
 have O:=Aa x;have K:Hid (Gw (CQ V) (BZ V) i=I3 (i:Int) (Cr (CQ V) (BZ V) i) (B7 (V i)) (V i).nt):=rfl;have P:Hid (Cr (CQ V) (BZ V) (i+1)=Dh (i:Int) (Cr (CQ V) (BZ V) i) (B7 (V i)) (V i).nt):=rfl;have Q:=Aa D;have F:=Aa C;clear J x I hs hS l D;generalize I3 (i:Int) (Cr (CQ V) (BZ V) i) (B7 (V i)) (V i).nt=W at *;generalize Dh (i:Int) (Cr (CQ V) (BZ V) i) (B7 (V i)) (V i).nt=X at *
 go_enter Tryz.func29,Tryz.ntmps29
 go_wp2_with fail
 go_region_law (go_simp;go_at_call 30;refine E.mono ?_;rintro e u ⟨v,xn,xc,rfl,y,p⟩;have G:=Aa y;have H:=Aa p;have g:=(p.block bp (.inr rfl)).trans O.out;have A:=Aa g;have Y:u.cell? ⟨bp,0,none⟩=some (.slice va vn vc):=(by simp[World.cell?,g]);have y1:u.frozen? ⟨bp,0,none⟩=false:=(by simp[World.frozen?,g]);clear y p g)
 all_goals (
  have d:Hid ((u.setCell ⟨bp,0,none⟩ (.slice v xn xc)).heap[bp]? = some (.cells #[.slice v xn xc] 37 (0,0))/\(Gw (CQ V) (BZ V) i=0->∃s,Parts Z (u.setCell ⟨bp,0,none⟩ (.slice v xn xc)) (.slice v xn xc) (Cr (CQ V) (BZ V) (i+1)) s)/\Keep Z w (u.setCell ⟨bp,0,none⟩ (.slice v xn xc))):=by
   refine⟨Ao u bp 0 _ 37 _ A.out,λh=>?_,?_⟩
   ·rw[K.out]at h
    obtain⟨r,R⟩:=G.out h;rw[P.out];exact⟨r,(R.less λb hb=>.inl hb).other (B:=bp) (λk _ hk=>Al _ _ _ _ hk) (λc t z hc=>by rw[A.out]at hc;cases hc;decide)⟩
   ·exact((Keep.of (Cz w 1) Q.out).trans (H.out.mono λb hb=>.inl hb)).trans (Keep.set _ _ _ F.out)
  go_wp2_with fail
  go_ret;exact⟨by rw[K.out];rfl,⟨v,xn,xc,d.out.1,d.out.2.1⟩,d.out.2.2⟩)
structure AllI (w0:World) (bp:Nat) (V:Nat->LServ) (Z:Nat->Prop) (i:Nat) (w1:World):Prop where
 frame:Keep (λb=>b<w0.heap.size/\b≠bp) w0 w1
 sub:∀b,b<w0.heap.size/\b≠bp->Z b
 nz : ¬Z bp
 parts:∃va vn vc rv,w1.heap[bp]? = some (.cells #[.slice va vn vc] 37 (0,0))/\Parts Z w1 (.slice va vn vc) (Cr (CQ V) (BZ V) i) rv
theorem Parts.shape{Z:Nat->Prop}{w:World}{va:Option Addr}{vn vc:Nat}{L:List PPart}{a:Nat->Nat->Value}(h:Parts Z w (.slice va vn vc) L a):vn=L.length:=by
 obtain⟨_,_,e,-⟩:=h.slice;cases e;rfl
theorem AllI.box{e:World}{bp:Nat}{V:Nat->LServ}{Z:Nat->Prop}{i:Nat}{c d:World}(h:AllI e bp V Z i c)(hb:Below c.heap.size c d):AllI e bp V (λb=>Z b\/(c.heap.size<=b/\b<d.heap.size)) i d:=by
 obtain⟨va,vn,vc,k,g,l⟩:=h.parts;have m:=Ag g;exact⟨h.frame.trans (Keep.of hb λb a=>Ah a.1 h.frame.size),λb a=>.inl (h.sub b a),λj=>j.elim h.nz (λj=>by omega),va,vn,vc,k,(hb.block _ m).trans g,l.kept hb⟩
theorem AllI.less{a:World}{bp:Nat}{V:Nat->LServ}{Z d:Nat->Prop}{i:Nat}{g j:World}{B:Nat}{u v:Int}(h:AllI a bp V Z i g)(k:∀b,d b->Z b)(hs:∀b,b<a.heap.size/\b≠bp->d b)(hB:a.heap.size<=B)(m:bp<a.heap.size)(hx:Boxed g j B u v):AllI a bp V d i j:=by
 obtain⟨va,vn,vc,n,l,o⟩:=h.parts;have p:=Ag l;have hk:Keep (λb=>b<a.heap.size/\b≠bp) g j:=⟨hx.os,hx.tape,hx.output,hx.size,λb hb=>hx.keep b (Ah hb.1 h.frame.size) (by have:=hb.1;omega)⟩;refine⟨h.frame.trans hk,hs,λq=>h.nz (k _ q),va,vn,vc,n,(hx.keep bp p (by omega)).trans l,(o.less k).other (B:=B) hx.keep λc t z hc=>?_⟩;obtain⟨r,e⟩:=hx.old _ hc;cases e;decide
theorem Rf(a:Option Addr)(n cap:Nat)(V:Nat->LServ)(w:World)(hS:Dc w a n V) :
  Calls Tryz.prog 13 #[.slice a n cap] w λe w'=>(∃va vn vc,e= .returned (.tuple #[.slice va vn vc,Dj (DT n V)])/\((DT n V).1≠0->va=none/\vn=0/\vc=0)/\((DT n V).1=0->∃rv,Parts (λb=>b<w.heap.size) w' (.slice va vn vc) (Cr (CQ V) (BZ V) n) rv))/\Below w.heap.size w w':=by
 have hmf:=zm;have hn:n<=9223372036854775807:=hS.1;have HS:=Aa hS;clear hS;generalize hW:(w.alloc (Obj.cells #[.slice a n cap] 22)).alloc (Obj.cells #[.int .i64 0,.int .i64 0] 39)=W;have K:Below w.heap.size w W:=by rw[<-hW];exact CN _ _ _
 have L:W.heap[w.heap.size]? = some (.cells #[.slice a n cap] 22 (0,0)):=by rw[<-hW];exact(A5 _ _ _ (by simp)).trans (Ap _ _)
 have hbf:W.heap[w.heap.size+1]? = some (.cells #[.int .i64 0,.int .i64 0] 39 (0,0)):=by
  rw[<-hW,show w.heap.size+1=(w.alloc (Obj.cells #[.slice a n cap] 22)).heap.size by simp];exact Ap _ _
 have l0:W.cell? ⟨w.heap.size,0,none⟩=some (.slice a n cap):=by simp[World.cell?,L]
 have k:=Pc a n cap V W (HS.out.kept K);have HBW:=Aa K;have M:=Aa L;have N:=Aa hbf;clear K L hbf;have HD:Hid (DT n V=if (DE n V).1≠0 then DE n V else CA n (Gw (CQ V) (BZ V))):=rfl
 have HOK:=Aa (E5 (n:=n) (V:=V));generalize DE n V=r at *;unfold Dj at k
 go_enter Tryz.func13,Tryz.ntmps13
 go_wp2_with fail
 clear hW;refine k.mono ?_;clear k;rintro e x ⟨rfl,O⟩;generalize hX:x.alloc (Obj.cells #[.int .i64 r.1,.int .i64 r.2] 39)=X;have hBX:Below x.heap.size x X:=by rw[<-hX];exact BW _ _
 have d0:X.cell? ⟨x.heap.size,0,none⟩=some (.int .i64 r.1):=by rw[<-hX,Ac _ _ _ _ rfl];rfl
 have d1:X.cell? ⟨x.heap.size,1,none⟩=some (.int .i64 r.2):=by rw[<-hX,Ac _ _ _ _ rfl];rfl
 have p:Below W.heap.size W X:=O.trans (hBX.mono O.size);have G:=(p.block _ (Ag M.out)).trans M.out;have H:=(p.block _ (Ag N.out)).trans N.out;have l0:=BR p l0;have HX:Hid (Below w.heap.size w X):=HBW.out.trans (p.mono HBW.out.size);have q:=Aa G;have d:=Aa H;clear hBX p O G H M N
 by_cases h0:r.1=0
 case neg =>
  have hb:(r.1 != 0)=true:=by simpa using h0
  have P:Hid (DT n V=r):=by rw[HD.out,Af h0];rfl
  have H0:=Aa h0;obtain⟨x0,x1,z0,z1⟩:=Dz d.out;have y:Hid (Below w.heap.size w ((X.setCell ⟨w.heap.size+1,0,none⟩ (.int .i64 r.1)).setCell ⟨w.heap.size+1,1,none⟩ (.int .i64 r.2))):=(HX.out.setCell (BI _) _).setCell (BI _) _;clear h0
  go_wp2_with fail
  clear hX
  go_region
  go_wp2_with fail
  exact At (v:=.tuple #[.slice none 0 0,.agg #[.int .i64 r.1,.int .i64 r.2]]) (by simp[results,Tryz.results13,go_sem,x0,x1]) rfl ⟨⟨none,0,0,by rw[P.out];rfl,λ_=>⟨rfl,rfl,rfl⟩,λh=>absurd (by rw[P.out]at h;exact h) H0.out⟩,y.out.drew⟩
 have hb:(r.1 != 0)=false:=by simpa using h0
 have P:Hid (DT n V=CA n (Gw (CQ V) (BZ V))):=by rw[HD.out,Ae (λh=>h h0)];rfl
 obtain⟨hn5,I⟩:=HOK.out h0;have hok:∀j,j<n->(JV (V j)).1=0:=λj hj=>(I j hj).1;clear h0 HD HOK I;generalize hQ:X.alloc (Obj.cells #[.slice none 0 0] 37)=Q;have A:Below X.heap.size X Q:=by rw[<-hQ];exact BW _ _
 have C:Q.heap[X.heap.size]? = some (.cells #[.slice none 0 0] 37 (0,0)):=by rw[<-hQ];exact Ap _ _
 have s:=(A.block _ (Ag q.out)).trans q.out;have J:=(A.block _ (Ag d.out)).trans d.out;have lQ:Q.cell? ⟨w.heap.size,0,none⟩=some (.slice a n cap):=by simp[World.cell?,s]
 have R:Below w.heap.size w Q:=HX.out.trans (A.mono HX.out.size);have hbX:w.heap.size+1<X.heap.size:=Ag d.out;have hQX:X.heap.size<Q.heap.size:=Ag C;have k:=KV a n cap 29 #[.pointer (some ⟨X.heap.size,0,none⟩),.pointer (some ⟨w.heap.size,0,none⟩)] (Gw (CQ V) (BZ V)) Q (AllI Q X.heap.size V) hn Tryz.e29
  (λZ i x hZ hi o=>by
   obtain⟨va,vn,vc,rv,q1,q2⟩:=o.parts;have S:Below w.heap.size w x:=R.trans (o.frame.below λb hb=>⟨by omega,by omega⟩);refine(SA Z a n cap i X.heap.size w.heap.size V va vn vc rv x (HS.out.kept S) ((o.frame.block _ ⟨by omega,by omega⟩).trans s) q1 q2 o.nz hZ hi hn5 hok).mono λe w' h=>⟨h.1,λh0=>?_,h.2.2⟩;obtain⟨va',vn',vc',q3,q4⟩:=h.2.1;obtain⟨rv',q5⟩:=q4 h0;exact⟨o.frame.trans (h.2.2.mono o.sub),o.sub,o.nz,va',vn',vc',rv',q3,q5⟩)
  (λZ i x D hb o=>o.box hb) (λb=>b<Q.heap.size/\b≠X.heap.size) (λY i x D B u v hz _ hB T o=>o.less hz (λb hb=>hb) hB hQX T) (λb hb=>hb.1)
  ⟨Keep.refl _ _,λb hb=>hb,λh=>h.2 rfl,none,0,0,λ_ _=>undef,C,LF _ _ _⟩
 have HBP:=Aa C;have HBFQ:=Aa J;have HWQ:=Aa R;clear hok C s J R A d q HX;generalize hff:CA n (Gw (CQ V) (BZ V))=f at *;have HFF:=Aa hff;clear hff;unfold Dj at k
 go_wp2_with fail
 clear hX hQ;refine k.mono ?_;clear k;rintro e D ⟨rfl,hI2,E⟩;have HI2:=Aa hI2;have l:=(E.block (w.heap.size+1) ⟨by omega,by omega⟩).trans HBFQ.out;have F:Below w.heap.size w D:=HWQ.out.trans (E.below λb hb=>⟨by omega,by omega⟩);have hz2:Q.heap.size<=D.heap.size:=E.size;clear hI2 E;generalize hU:D.alloc (Obj.cells #[.int .i64 f.1,.int .i64 f.2] 39)=U;have m:Below D.heap.size D U:=by rw[<-hU];exact BW _ _
 have e0:U.cell? ⟨D.heap.size,0,none⟩=some (.int .i64 f.1):=by rw[<-hU,Ac _ _ _ _ rfl];rfl
 have e1:U.cell? ⟨D.heap.size,1,none⟩=some (.int .i64 f.2):=by rw[<-hU,Ac _ _ _ _ rfl];rfl
 have g:=(m.block _ (Ag l)).trans l;obtain⟨x0,x1,z0,z1⟩:=Dz g;have aa:Below w.heap.size w U:=F.trans (m.mono F.size);have y:Hid (Below w.heap.size w ((U.setCell ⟨w.heap.size+1,0,none⟩ (.int .i64 f.1)).setCell ⟨w.heap.size+1,1,none⟩ (.int .i64 f.2))):=(aa.setCell (BI _) _).setCell (BI _) _
 by_cases h1:f.1=0
 case neg =>
  have S:(f.1 != 0)=true:=by simpa using h1
  have H1:=Aa h1;clear h1 m l g F aa
  go_wp2_with fail
  clear hU
  go_region
  go_wp2_with fail
  exact At (v:=.tuple #[.slice none 0 0,.agg #[.int .i64 f.1,.int .i64 f.2]]) (by simp[results,Tryz.results13,go_sem,x0,x1]) rfl ⟨⟨none,0,0,by rw[P.out];rfl,λ_=>⟨rfl,rfl,rfl⟩,λh=>absurd (by rw[P.out]at h;exact h) H1.out⟩,y.out.drew⟩
 have S:(f.1 != 0)=false:=by simpa using h1
 obtain⟨va,vn,vc,rv,q1,q2⟩:=(HI2.out h1).parts;have hq1:=(m.block _ (Ag q1)).trans q1;have y0:U.cell? ⟨X.heap.size,0,none⟩=some (.slice va vn vc):=by simp[World.cell?,hq1]
 have HPU:Hid (Parts (λb=>b<w.heap.size) ((U.setCell ⟨w.heap.size+1,0,none⟩ (.int .i64 f.1)).setCell ⟨w.heap.size+1,1,none⟩ (.int .i64 f.2)) (.slice va vn vc) (Cr (CQ V) (BZ V) n) rv):=by
  have T:=LY (u:=f.1) (v:=f.2) g;exact((q2.kept' m).less λb (hb:b<w.heap.size)=>⟨by omega,by omega⟩).other (B:=w.heap.size+1) T.keep λc t z hc=>by rw[g]at hc;cases hc;decide
 have H1:=Aa h1;clear h1 m l g F aa q1 q2 hq1
 go_wp2_with fail
 clear hU
 go_region
 all_goals (
  go_wp2_with fail
  exact At (v:=.tuple #[.slice va vn vc,.agg #[.int .i64 f.1,.int .i64 f.2]]) (by simp[results,Tryz.results13,go_sem,x0,x1]) rfl ⟨⟨va,vn,vc,by rw[P.out];rfl,λh=>absurd (by rw[P.out];exact H1.out) h,λ_=>⟨rv,HPU.out.kept' (Cz _ 1)⟩⟩,y.out.drew⟩)
theorem ST(a:Option Addr)(n cap:Nat)(V:Nat->LServ)(w:World)(hS:Dc w a n V) :
  Calls Tryz.prog 13 #[.slice a n cap] w λe w'=>(∃va vn vc,e= .returned (.tuple #[.slice va vn vc,Dj (DT n V)])/\((DT n V).1≠0->vn=0)/\((DT n V).1=0->∃c,Parts (λb=>b<w.heap.size) w' (.slice va vn vc) (Cr (CQ V) (BZ V) n) c))/\Below w.heap.size w w' :=
 (Rf a n cap V w hS).mono λ_ _ ⟨⟨va,vn,vc,h1,h2,h3⟩,h4⟩=>⟨⟨va,vn,vc,h1,λh=>(h2 h).2.1,h3⟩,h4⟩
end Go.Proofs.YtjjggefmmeminabGreat
