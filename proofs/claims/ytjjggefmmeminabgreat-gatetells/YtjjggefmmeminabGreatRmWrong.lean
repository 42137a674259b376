import Derived.Test.YtjjggefmmeminabGreatRfSim
import Derived.Test.YtjjggefmmeminabGreatMgAll
set_option maxHeartbeats 2000000
set_option maxRecDepth 100000
namespace Go.Proofs.YtjjggefmmeminabGreat
open Go.RowKit Go.Sort Go.PlainAid
theorem PW{n i:Nat}{T:Nat->LType}{X:Nat->LThing}(h:find n T (X i).type<0):Cv n T X i=5:=by unfold Cv;rw[Af h]
theorem LN{n i t:Nat}{T:Nat->LType}{X:Nat->LThing}(h:find n T (X i).type=(t:Int))(a:Cb (X i).key=false\/0<=Ds i (Cf X (X i).type (X i).key)):Cv n T X i=6:=by
 unfold Cv hasThing;rw[Ae (by omega)];rcases a with a|a<;>simp[a]
theorem Pi{n i t:Nat}{T:Nat->LType}{X:Nat->LThing}(h:find n T (X i).type=(t:Int))(h1:Cb (X i).key=true)(h2:Ds i (Cf X (X i).type (X i).key)<0):Cv n T X i=CY (T t).nf (T t).F (X i).nv (X i).V:=by
 unfold Cv hasThing CY;rw[Ae (by omega),h,Ax];have : ¬0<=Ds i (Cf X (X i).type (X i).key):=by omega
 simp[h1,this]
theorem OT(n:Nat)(X:Nat->LThing)(typ key:ByteArray):Ds n (Cf X typ key)<0\/∃t:Nat,t<n/\Ds n (Cf X typ key)=(t:Int):=by
 rcases CE n (Cf X typ key) with⟨h,_⟩|⟨t,a,h,_⟩
 ·left;omega
 ·right;exact⟨t,a,h⟩
theorem Lt(a xa:Option Addr)(n cap m A:Nat)(T:Nat->LType)(X:Nat->LThing)(w:World)(hT:Cs w a n T)(hX:CZ w xa m X)(hxcap:m<=A) :
  Calls Tryz.prog 71 #[.slice a n cap,.slice xa m A] w λe w'=>e= .returned (Dj (Cu n T m X))/\Below w.heap.size w w':=by
 have hm:m<=9223372036854775807:=hX.1;have hn:n<=9223372036854775807:=hT.1;have HT:Hid (Cs w a n T):=hT;have HX:Hid (CZ w xa m X):=hX;clear hT hX
 by_cases h:60<(m:Int)
 ·have c:Hid (Cu n T m X=(4,0)):=by unfold Cu Hid;rw[Af (by omega)]
  go_enter Tryz.func71,Tryz.ntmps71
  go_wp2_with fail
  exact At (v:=.agg #[.int .i64 4,.int .i64 0]) (by simp[results,Tryz.results71,go_sem]) rfl ⟨by rw[c.out];rfl,BW _ _⟩
 have HS:Hid (Cu n T m X=CA m (Cv n T X)):=by unfold Cu Hid;rw[Ae (by omega)]
 go_enter Tryz.func71,Tryz.ntmps71
 go_wp2_with fail
 go_loopw [15] (λi wr => ∃k:Nat,k<=m/\i= .int .i64 k/\Hid (∀j,j<k->Cv n T X j=0)/\FR w wr) (λi _=>m - (intOf i).toNat)
 case atStart=>exact⟨0,Ai _,rfl,(λj hj=>absurd hj (Ak _)),FR.start _ _⟩
 case round =>
  obtain⟨k,hk,rfl,hb,C⟩:=hrel
  by_cases O:k<m
  ·obtain⟨b,o,ha,t0,t1,t2,-,-,hs,hV⟩:=(HX.out.kept C.1).2 k O
   subst ha;have hlt':(k:Int)<(m:Int):=by omega
   have hk0:(0:Int)<=(k:Int):=by omega
   have hkc:(k:Int)<=(A:Int):=by omega
   generalize Q:wr.alloc (Obj.cells #[Value.string (X k).type,Value.string (X k).key,Value.slice (X k).va (X k).nv (X k).vcap] 88)=W;have hB:Below wr.heap.size wr W:=by rw[<-Q];exact BW _ _
   have k0:W.cell? ⟨wr.heap.size,0,none⟩=some (.string (X k).type):=by rw[<-Q,Ac _ _ _ _ rfl];rfl
   have k1:W.cell? ⟨wr.heap.size,1,none⟩=some (.string (X k).key):=by rw[<-Q,Ac _ _ _ _ rfl];rfl
   have k2:W.cell? ⟨wr.heap.size,2,none⟩=some (.slice (X k).va (X k).nv (X k).vcap):=by rw[<-Q,Ac _ _ _ _ rfl];rfl
   have D:FR w W:=C.next hB
   have G:Hid (FR w W):=D;have Y:Hid (Ec W (X k).va (X k).nv (X k).V):=hV.kept hB;have r:Hid (∀e:Int,Cv n T X k=e->e≠0->Cu n T m X=(e,(k:Int))):=λe he h0=>by
    rw[HS.out,Do O (by rw[he];exact h0) hb.out,he]
   have hgo:Hid (Cv n T X k=0->∀i,i<k+1->Cv n T X i=0):=λh0 i hi=>by
    rcases Nat.lt_succ_iff_lt_or_eq.1 hi with h|h
    ·exact hb i h
    ·rw[h];exact h0
   have B:=Ge a n cap T (X k).type W (HT.out.kept D.1);clear C hB D hV;rcases F9 n T (X k).type with P|⟨t,ht,P⟩
   ·have c:Hid (Cu n T m X=(5,(k:Int))):=r.out 5 (PW P) (by decide)
    rw[Fa P]at B;clear P
    go_wp2_with fail
    clear Q;refine B.mono ?_;clear B;rintro e s ⟨rfl,l⟩;have J:=G.out.next l
    have g:Hid (FR w s):=J;obtain⟨-,z1,d0,H,g0,g1⟩:=J;clear l k0 k1 k2 t0 t1 t2
    go_wp2_with fail
    exact At (v:=.agg #[.int .i64 5,.int .i64 (k:Int)]) (by simp[results,Tryz.results71,go_sem,d0,H]) rfl ⟨by rw[c.out];rfl,g.out.set _ _⟩
   obtain⟨b1,o1,ha,-,tc,-,-,hF⟩:=(HT.out.kept G.out.1).2 t ht;subst ha;rw[Fe P]at B
   go_wp2_with fail
   clear Q;refine B.mono ?_;clear B;rintro e s ⟨rfl,l⟩;have g:Hid (FR w s):=G.out.next l
   have c0:=BR l k0;have c1:=BR l k1;have c2:=BR l k2;have Z:=BR l tc;have HF2:Hid (Cl s (T t).fa (T t).nf (T t).F):=hF.kept l;have HV2:Hid (Ec s (X k).va (X k).nv (X k).V):=Y.out.kept l;have HX2:Hid (CZ s (some ⟨b,o,none⟩) m X):=HX.out.kept g.out.1;have H5:Hid (find n T (X k).type=(t:Int)):=P;clear P l k0 k1 k2 tc hF Y G t0 t1 t2
   go_wp2_with fail
   have r0:=As c0;have r1:=As c1;have r2:=As c2;have I:∀d os,Calls Tryz.prog 75 #[.string (X k).key] (grow (redrawn s d) os) λe w''=>e= .returned (.bool (Cb (X k).key))/\∃p:Regrown,w''=grow (redrawn s p.d) p.os:=λd os=>AF (Dv _ _ hs);have K:∀d os,Calls Tryz.prog 44 #[.slice (some ⟨b,o,none⟩) k A,.string (X k).type,.string (X k).key] (grow (redrawn s d) os) λe w''=>e= .returned (ER (some ⟨b,o,none⟩) k X (X k).type (X k).key)/\∃p:Regrown,w''=grow (redrawn s p.d) p.os:=λd os=>AF (FL _ _ _ X _ _ _ ((HX2.out.less (BF O)).kept (Av s d os)));cases h1:Cb (X k).key
   ·have c:Hid (Cu n T m X=(6,(k:Int))):=r.out 6 (LN H5.out (.inl h1)) (by decide)
    rw[h1]at I;refine Ar (by kernel_rfl) (by kernel_rfl) ?_
    repeat (go_big_quiet_step (first|exact I _ _|exact K _ _))
    refine AK ?_;intro _ E;obtain⟨⟨L,osq⟩,u⟩:=E;subst u;have q:=g.out.next (Av s L osq)
    generalize grow (redrawn s L) osq=R at q ⊢;have x:Hid (FR w R):=q;obtain⟨-,z1,d0,H,g0,g1⟩:=q;clear r0 r1 r2 I K c0 c1 c2
    go_wp2_with fail
    exact At (v:=.agg #[.int .i64 6,.int .i64 (k:Int)]) (by simp[results,Tryz.results71,go_sem,d0,H]) rfl ⟨by rw[c.out];rfl,x.out.set _ _⟩
   rcases OT k X (X k).type (X k).key with S|⟨t',ht',S⟩
   case inr =>
    have c:Hid (Cu n T m X=(6,(k:Int))):=r.out 6 (LN H5.out (.inr (by omega))) (by decide);rw[h1]at I;rw[H4 S]at K;clear S;refine Ar (by kernel_rfl) (by kernel_rfl) ?_
    repeat (go_big_quiet_step (first|exact I _ _|exact K _ _))
    refine AK ?_;intro _ E;obtain⟨⟨L,osq⟩,u⟩:=E;subst u;have q:=g.out.next (Av s L osq)
    generalize grow (redrawn s L) osq=R at q ⊢;have x:Hid (FR w R):=q;obtain⟨-,z1,d0,H,g0,g1⟩:=q;clear r0 r1 r2 I K c0 c1 c2
    go_wp2_with fail
    exact At (v:=.agg #[.int .i64 6,.int .i64 (k:Int)]) (by simp[results,Tryz.results71,go_sem,d0,H]) rfl ⟨by rw[c.out];rfl,x.out.set _ _⟩
   case inl =>
    have aa:Hid (Cv n T X k=CY (T t).nf (T t).F (X k).nv (X k).V):=Pi H5.out h1 S;rw[h1]at I;rw[Hz S]at K;clear S;refine Ar (by kernel_rfl) (by kernel_rfl) ?_
    repeat (go_big_quiet_step (first|exact I _ _|exact K _ _))
    refine AK ?_;intro _ E;obtain⟨⟨L,osq⟩,u⟩:=E;subst u;have y:=Av s L osq;generalize grow (redrawn s L) osq=R at y ⊢;have x:Hid (FR w R):=g.out.next y
    have e2:=BR y c2;have ab:=Ow b1 (o1+t*2) (T t).fa (X k).va (T t).nf (T t).fcap (X k).nv (X k).vcap (T t).F (X k).V R (BR y Z) (HF2.out.kept y) (HV2.out.kept y);clear r0 r1 r2 I K c0 c1 c2 y Z
    go_wp2_with fail
    refine ab.mono ?_;clear ab;rintro e w4 ⟨rfl,ac⟩;have M:=x.out.next ac
    have N:Hid (FR w w4):=M;obtain⟨-,z1,d0,H,g0,g1⟩:=M;clear ac e2
    by_cases U:CY (T t).nf (T t).F (X k).nv (X k).V=0
    ·have hq:Hid (∀i,i<k+1->Cv n T X i=0):=hgo.out (by rw[aa.out];exact U)
     have h7b:(CY (T t).nf (T t).F (X k).nv (X k).V != 0)=false:=by simpa using U
     clear U
     go_wp2_with fail
     go_roundw
     case rel=>exact⟨k+1,by omega,by go_num,hq,N.out⟩
     case measure=>simp[intOf];omega
    ·have c:Hid (Cu n T m X=(CY (T t).nf (T t).F (X k).nv (X k).V,(k:Int))):=r.out _ aa.out U
     have h7b:(CY (T t).nf (T t).F (X k).nv (X k).V != 0)=true:=by simpa using U
     clear U;generalize CY (T t).nf (T t).F (X k).nv (X k).V=z at *
     go_wp2_with fail
     exact At (v:=.agg #[.int .i64 z,.int .i64 (k:Int)]) (by simp[results,Tryz.results71,go_sem,d0,H]) rfl ⟨by rw[c.out];rfl,N.out.set _ _⟩
  ·have c:Hid (Cu n T m X=(0,0)):=by unfold Hid;rw[HS.out];exact Dm λj hj=>hb.out j (by omega)
   have g:Hid (FR w wr):=C;obtain⟨-,z1,d0,H,g0,g1⟩:=C
   go_wp2_with fail
   exact At (v:=.agg #[.int .i64 0,.int .i64 0]) (by simp[results,Tryz.results71,go_sem,d0,H]) rfl ⟨by rw[c.out];rfl,g.out.set _ _⟩
theorem QZ(a:Option Addr)(n cap:Nat)(V:Nat->LServ)(w:World)(hS:Dc w a n V) :
  Calls Tryz.prog 38 #[.slice a n cap] w λe w'=>e= .returned (Dj (DE n V))/\Below w.heap.size w w':=by
 have hn:n<=9223372036854775807:=hS.1;have HS:=Aa hS;clear hS;generalize R:w.alloc (Obj.cells #[.int .i64 0,.int .i64 0] 39)=W;have I:Below w.heap.size w W:=by rw[<-R];exact BW _ _
 have z:W.heap[w.heap.size]? = some (.cells #[.int .i64 0,.int .i64 0] 39 (0,0)):=by rw[<-R];exact Ap _ _
 have c:=Aa I;clear I
 by_cases h5:5<n
 ·have hF:Hid (DE n V=(4,0)):=by unfold DE;rw[Af h5];rfl
  have h5':(5:Int)<(n:Int):=by omega
  obtain⟨d0,d1,z0,z1⟩:=Dz z;have d:Hid (Below w.heap.size w ((W.setCell ⟨w.heap.size,0,none⟩ (.int .i64 4)).setCell ⟨w.heap.size,1,none⟩ (.int .i64 0))):=(c.out.setCell (Aj _) _).setCell (Aj _) _
  go_enter Tryz.func38,Tryz.ntmps38
  go_wp2_with fail
  clear R;exact At (v:=.agg #[.int .i64 4,.int .i64 0]) (by simp[results,Tryz.results38,go_sem,d0,d1]) rfl ⟨by rw[hF.out];rfl,d.out⟩
 have h5' : ¬(5:Int)<(n:Int):=by omega
 have hF:Hid (DE n V=CA n (λi=>CM (V i))):=by unfold DE;rw[Ae h5];rfl
 have m:=Aa z;clear h5 z
 go_enter Tryz.func38,Tryz.ntmps38
 go_wp2_with fail
 clear R
 go_loopw [14] (λi wr => ∃k:Nat,k<=n/\i= .int .i64 k/\Hid (∀j,j<k->CM (V j)=0)/\Below W.heap.size W wr) (λi _=>n - (intOf i).toNat)
 case atStart=>exact⟨0,Ai _,rfl,(λj S=>absurd S (Ak _)),Aq _ _⟩
 case round =>
  obtain⟨k,hk,rfl,hb,A⟩:=hrel
  by_cases B:k<n
  ·obtain⟨b,o,rfl,hs⟩:=((HS.out.kept c.out).kept A).2 k B
   have c0:=hs.c0;have c1:=hs.c1;have c2:=hs.c2;have J:=hs.ok;have hlt':(k:Int)<(n:Int):=by omega
   have hk0:(0:Int)<=(k:Int):=by omega
   generalize K:wr.alloc (Obj.cells #[.slice (V k).ta (V k).nt (V k).tcap,.slice (V k).ca (V k).nc (V k).ccap,.slice (V k).xa (V k).nx (V k).xcap] 81)=X;have D:Below wr.heap.size wr X:=by rw[<-K];exact BW _ _
   have b0:X.cell? ⟨wr.heap.size,0,none⟩=some (.slice (V k).ta (V k).nt (V k).tcap):=by rw[<-K,Ac _ _ _ _ rfl];rfl
   have b1:X.cell? ⟨wr.heap.size,1,none⟩=some (.slice (V k).ca (V k).nc (V k).ccap):=by rw[<-K,Ac _ _ _ _ rfl];rfl
   have b2:X.cell? ⟨wr.heap.size,2,none⟩=some (.slice (V k).xa (V k).nx (V k).xcap):=by rw[<-K,Ac _ _ _ _ rfl];rfl
   have HX:Hid (Below W.heap.size W X):=A.trans (D.mono A.size);have s:=Aa (J.kept D);have l:=KR (V k).ta (V k).ca (V k).nt (V k).tcap (V k).nc (V k).ccap (V k).T (V k).C X s.out.types s.out.changes s.out.tcap;rw[NO]at l;have HD:Hid (CM (V k)=if (EZ (V k).nt (V k).T (V k).nc (V k).C).1≠0 then (EZ (V k).nt (V k).T (V k).nc (V k).C).1 else (Cu (V k).nt (V k).T (V k).nx (V k).X).1):=rfl
   clear hs J D A
   go_wp2_with fail
   clear K c0 c1 c2;refine l.mono ?_;clear l;rintro e E ⟨⟨x0,x1,fv,rfl,-,⟨y0,l0,t0,rfl⟩,⟨y1,l1,t1,rfl⟩,⟨y2,l2,t2,rfl⟩⟩,F⟩;generalize EZ (V k).nt (V k).T (V k).nc (V k).C=r at *;unfold FY;generalize hY:(E.alloc (Obj.cells #[.slice y0 l0 t0,.slice y1 l1 t1,.slice y2 l2 t2] 107)).alloc (Obj.cells #[.int .i64 r.1,.int .i64 r.2] 39)=Y;have L:Below E.heap.size E Y:=by rw[<-hY];exact CN _ _ _
   have M:Y.heap[E.heap.size+1]? = some (.cells #[.int .i64 r.1,.int .i64 r.2] 39 (0,0)):=by
    rw[<-hY,show E.heap.size+1=(E.alloc (Obj.cells #[.slice y0 l0 t0,.slice y1 l1 t1,.slice y2 l2 t2] 107)).heap.size by simp];exact Ap _ _
   have d0:Y.cell? ⟨E.heap.size+1,0,none⟩=some (.int .i64 r.1):=by simp[World.cell?,M]
   have p:Below X.heap.size X Y:=F.trans (L.mono F.size);have b0:=BR p b0;have b2:=BR p b2;have Z:Hid (Below W.heap.size W Y):=HX.out.trans (p.mono HX.out.size);have u:=(Z.out.block _ (Ag m.out)).trans m.out;obtain⟨N,f1,z0,z1⟩:=Dz u;have q:=Aa (s.out.kept p);clear L M p F b1
   by_cases h0:r.1=0
   case neg =>
    have hb0:(r.1 != 0)=true:=by simpa using h0
    have O:Hid (CA n (λi=>CM (V i))=(r.1,(k:Int))):=by
     have e:CM (V k)=r.1:=by rw[HD.out,Af h0]
     have:=Do (g:=λi=>CM (V i)) B (by show CM (V k)≠0;rw[e];exact h0) hb.out;rw[e]at this;exact this
    have d:Hid (Below w.heap.size w ((Y.setCell ⟨w.heap.size,0,none⟩ (.int .i64 r.1)).setCell ⟨w.heap.size,1,none⟩ (.int .i64 (k:Int)))):=((c.out.trans (Z.out.mono c.out.size)).setCell (Aj _) _).setCell (Aj _) _;clear h0
    go_wp2_with fail
    exact At (v:=.agg #[.int .i64 r.1,.int .i64 (k:Int)]) (by simp[results,Tryz.results38,go_sem,N,f1]) rfl ⟨by rw[hF.out,O.out];rfl,d.out⟩
   have hb0:(r.1 != 0)=false:=by simpa using h0
   have G:Hid (CM (V k)=(Cu (V k).nt (V k).T (V k).nx (V k).X).1):=by rw[HD.out,Ae (λh=>h h0)];rfl
   have l:=Lt (V k).ta (V k).xa (V k).nt (V k).tcap (V k).nx (V k).xcap (V k).T (V k).X Y q.out.types q.out.things q.out.xcap;clear h0 HD;generalize Cu (V k).nt (V k).T (V k).nx (V k).X=y at *;unfold Dj at l
   go_wp2_with fail
   clear hY d0;refine l.mono ?_;clear l;rintro e w3 ⟨rfl,H⟩;generalize hU:w3.alloc (Obj.cells #[.int .i64 y.1,.int .i64 y.2] 39)=U;have P:Below w3.heap.size w3 U:=by rw[<-hU];exact BW _ _
   have d0:U.cell? ⟨w3.heap.size,0,none⟩=some (.int .i64 y.1):=by rw[<-hU,Ac _ _ _ _ rfl];rfl
   have HU:Hid (Below W.heap.size W U):=Z.out.trans ((H.trans (P.mono H.size)).mono Z.out.size);have Q:=(HU.out.block _ (Ag m.out)).trans m.out;obtain⟨N,f1,z0,z1⟩:=Dz Q;clear P H u b0 b2
   by_cases h0:y.1=0
   case neg =>
    have hb1:(y.1 != 0)=true:=by simpa using h0
    have O:Hid (CA n (λi=>CM (V i))=(y.1,(k:Int))):=by
     have:=Do (g:=λi=>CM (V i)) B (by show CM (V k)≠0;rw[G.out];exact h0) hb.out;rw[G.out]at this;exact this
    have d:Hid (Below w.heap.size w ((U.setCell ⟨w.heap.size,0,none⟩ (.int .i64 y.1)).setCell ⟨w.heap.size,1,none⟩ (.int .i64 (k:Int)))):=((c.out.trans (HU.out.mono c.out.size)).setCell (Aj _) _).setCell (Aj _) _;clear h0
    go_wp2_with fail
    exact At (v:=.agg #[.int .i64 y.1,.int .i64 (k:Int)]) (by simp[results,Tryz.results38,go_sem,N,f1]) rfl ⟨by rw[hF.out,O.out];rfl,d.out⟩
   have hb1:(y.1 != 0)=false:=by simpa using h0
   have hb2:Hid (∀j,j<k+1->CM (V j)=0):=λj S=>by
    rcases Nat.lt_succ_iff_lt_or_eq.1 S with h|h
    ·exact hb j h
    ·rw[h,G.out];exact h0
   clear h0
   go_wp2_with fail
   clear hU
   go_roundw
   case rel=>exact⟨k+1,by omega,by go_num,hb2,HU.out⟩
   case measure=>simp[intOf];omega
  ·have hkn:k=n:=by omega
   have O:Hid (CA n (λi=>CM (V i))=(0,0)):=Dm (g:=λi=>CM (V i)) (λj S=>hb j (by omega));have x:=(A.block _ (Ag m.out)).trans m.out;obtain⟨N,f1,z0,z1⟩:=Dz x;have d:Hid (Below w.heap.size w ((wr.setCell ⟨w.heap.size,0,none⟩ (.int .i64 0)).setCell ⟨w.heap.size,1,none⟩ (.int .i64 0))):=((c.out.trans (A.mono c.out.size)).setCell (Aj _) _).setCell (Aj _) _;clear A x
   go_wp2_with fail
   exact At (v:=.agg #[.int .i64 0,.int .i64 0]) (by simp[results,Tryz.results38,go_sem,N,f1]) rfl ⟨by rw[hF.out,O.out];rfl,d.out⟩
def IY (L:List PPart) (g:Nat) (name:ByteArray):Value:=if Fd L name<0 then .pointer none else .pointer (some ⟨g,(Fd L name).toNat*4,none⟩)
theorem Gh(Z:Nat->Prop)(a:Option Addr)(n cap:Nat)(L:List PPart)(y:Nat->Nat->Value)(name:ByteArray)(w:World)(l:Parts Z w (.slice a n cap) L y) :
  Calls Tryz.prog 19 #[.slice a n cap,.string name] w λe w'=>(∃g,(0<L.length->a=some ⟨g,0,none⟩)/\e= .returned (IY L g name))/\Below w.heap.size w w':=by
 obtain rfl:=l.shape;have hn:L.length<=9223372036854775807:=l.nmax;have r:∃g,0<L.length->a=some ⟨g,0,none⟩:=by
  by_cases h:0<L.length
  ·obtain⟨g,c,e,-⟩:=l.ptr h
   cases e;exact⟨g,λ_=>rfl⟩
  ·exact⟨0,λz=>absurd z h⟩
 obtain⟨g,hg⟩:=r;have s:=Aa hg;have A:=Aa l;clear l hg
 go_enter Tryz.func19,Tryz.ntmps19
 go_wp2_with fail
 go_loopw [8] (λi wr => ∃k:Nat,k<=L.length/\i= .int .i64 k/\Hid (∀j,j<k->eqs (Ci L j).name name=false)/\Below w.heap.size w wr) (λi _=>L.length - (intOf i).toNat)
 case atStart=>exact⟨0,Ai _,rfl,(λj p=>absurd p (Ak _)),Aq _ _⟩
 case round =>
  obtain⟨k,hk,rfl,hb,q⟩:=hrel
  by_cases m:k<L.length
  ·obtain⟨C,-,-,-⟩:wr.cell? ⟨g,k*4,none⟩=some (.string (Ci L k).name)/\True/\True/\True:=by
    have h1:=s.out (by omega);have h2:=A.out.kept' q;subst h1;exact⟨(h2.cells m).1,AM,AM,AM⟩
   have d:=s.out (by omega);rw[d];have x:(k:Int)<(L.length:Int):=by omega
   have B:(0:Int)<=(k:Int):=by omega
   have u:=Aa d;clear d
   cases o:((Ci L k).name.toList==name.toList) with
   |true =>
    have b:Hid (Fd L name=(k:Int)):=DD m (by show eqs (Ci L k).name name=true;rw[<-CT];exact o) hb
    go_wp2_with fail
    go_ret;refine⟨⟨g,λ_=>u.out,?_⟩,q⟩;unfold IY;rw[b.out,Ae (by omega),Ax];rfl
   |false =>
    have v:Hid (∀j,j<k+1->eqs (Ci L j).name name=false):=λj p=>by
     rcases Nat.lt_succ_iff_lt_or_eq.1 p with h|h
     ·exact hb j h
     ·rw[h,<-CT];exact o
    go_wp2_with fail
    go_roundw
    case rel=>exact⟨k+1,by omega,by go_num,v,q⟩
    case measure=>simp[intOf];omega
  ·have b:Hid (Fd L name = -1):=Em (λj p=>hb j (by omega))
   go_wp2_with fail
   go_ret;refine⟨⟨g,s.out,?_⟩,q⟩;unfold IY;rw[b.out];rfl
end Go.Proofs.YtjjggefmmeminabGreat
