import Derived.Test.YtjjggefmmeminabGreatJRe
set_option maxHeartbeats 2000000
namespace Go.Proofs.YtjjggefmmeminabGreat
open Go.RowKit Go.Sort Go.PlainAid
def FR (w wr:World):Prop:=Below w.heap.size w wr/\w.heap.size<wr.heap.size/\wr.cell? ⟨w.heap.size,0,none⟩=some (.int .i64 0)/\wr.cell? ⟨w.heap.size,1,none⟩=some (.int .i64 0)/\wr.frozen? ⟨w.heap.size,0,none⟩=false/\wr.frozen? ⟨w.heap.size,1,none⟩=false
theorem FR.next{w wr w':World}(h:FR w wr)(hb:Below wr.heap.size wr w'):FR w w' :=
 ⟨h.1.trans (hb.mono h.1.size),Ah h.2.1 hb.size,BR hb h.2.2.1,BR hb h.2.2.2.1,(hb.frozen (p:=⟨w.heap.size,0,none⟩) h.2.1).trans h.2.2.2.2.1,(hb.frozen (p:=⟨w.heap.size,1,none⟩) h.2.1).trans h.2.2.2.2.2⟩
theorem FR.start(w:World)(t:TypeId):FR w (w.alloc (.cells #[.int .i64 0,.int .i64 0] t)) :=
 ⟨(Aq _ _).alloc (Aj _) _,by simp,by rw[Ac _ _ _ _ rfl];rfl,by rw[Ac _ _ _ _ rfl];rfl,AZ _ _ _ _ rfl,AZ _ _ _ _ rfl⟩
theorem FR.set{w wr:World}(h:FR w wr)(u v:Value):Below w.heap.size w ((wr.setCell ⟨w.heap.size,0,none⟩ u).setCell ⟨w.heap.size,1,none⟩ v) :=
 (h.1.setCell (Aj _) _).setCell (Aj _) _
theorem If(e k:Int)(b:Nat)(w:World)(hc:w.cell? ⟨b,0,none⟩=some (.int .i64 k)) :
  Calls Tryz.prog 105 #[.int .i64 e,.pointer (some ⟨b,0,none⟩)] w λx w'=>x= .returned (.agg #[.int .i64 e,.int .i64 k])/\Below w.heap.size w w':=by
 have hb:b<w.heap.size:=An hc
 go_enter Tryz.func105,Tryz.ntmps105
 go_wp2_with fail
 exact At (v:=.agg #[.int .i64 e,.int .i64 k]) (by simp[results,Tryz.results105,go_sem]) rfl ⟨rfl,BW _ _⟩
theorem JB{n k:Nat}{T:Nat->LType}(hn:n<=8)(hk:k<n)(h:B6 T k=6)(hb:∀j,j<k->B6 T j=0):CD n T=(6,(k:Int)):=by
 have e:CA n (B6 T)=(6,(k:Int)):=by rw[Do hk (by rw[h];decide) hb,h]
 unfold CD;rw[Ae (by omega),e,Af (by simp)]
theorem Ll{n:Nat}{T:Nat->LType}(hn:n<=8)(hb:∀j,j<n->B6 T j=0):CD n T=CA n (λi=>Ct n T (T i).nf (T i).F):=by
 unfold CD;rw[Ae (by omega),Dm hb,Ae (by simp)]
theorem JT{n nf j:Nat}{T:Nat->LType}{F:Nat->LField}(hn:nf<=10)(a:j<nf)(h:Cm n T F j≠0)(hb:∀i,i<j->Cm n T F i=0):Ct n T nf F=Cm n T F j:=by
 unfold Ct;rw[Ae (by omega),Do a h hb]
theorem Ko{n nf:Nat}{T:Nat->LType}{F:Nat->LField}(hn:nf<=10)(hb:∀i,i<nf->Cm n T F i=0):Ct n T nf F=0:=by
 unfold Ct;rw[Ae (by omega),Dm hb]
theorem Ry{T:Nat->LType}{k:Nat}(h:Cb (T k).name=false):B6 T k=6:=by unfold B6;simp[h]
theorem Oc{T:Nat->LType}{k t:Nat}(h:find k T (T k).name=(t:Int)):B6 T k=6:=by unfold B6;simp[h]
theorem SF{T:Nat->LType}{k:Nat}(h:Cb (T k).name=true)(a:find k T (T k).name<0):B6 T k=0:=by unfold B6;simp[h,show ¬0<=find k T (T k).name by omega]
theorem F9(n:Nat)(T:Nat->LType)(s:ByteArray):find n T s<0\/∃t:Nat,t<n/\find n T s=(t:Int):=by
 rcases CE n (λj=>eqs (T j).name s) with⟨h,_⟩|⟨t,a,h,_⟩
 ·left;unfold find;omega
 ·right;exact⟨t,a,h⟩
theorem MV(a:Option Addr)(n cap:Nat)(T:Nat->LType)(w:World)(hT:Cs w a n T)(hcap:n<=cap) :
  Calls Tryz.prog 72 #[.slice a n cap] w λe w'=>e= .returned (Dj (CD n T))/\Below w.heap.size w w':=by
 have hmf:=zm;have hn:n<=9223372036854775807:=hT.1;have HT:Hid (Cs w a n T):=hT;clear hT
 by_cases h:8<(n:Int)
 ·have c:Hid (CD n T=(4,0)):=by unfold CD Hid;rw[Af (by omega)]
  go_enter Tryz.func72,Tryz.ntmps72
  go_wp2_with fail
  exact At (v:=.agg #[.int .i64 4,.int .i64 0]) (by simp[results,Tryz.results72,go_sem]) rfl ⟨by rw[c.out];rfl,BW _ _⟩
 have HN:Hid (n<=8):=by unfold Hid;omega
 go_enter Tryz.func72,Tryz.ntmps72
 go_wp2_with fail
 go_loopw [16] (λi wr => ∃k:Nat,k<=n/\i= .int .i64 k/\Hid (∀j,j<k->B6 T j=0)/\FR w wr) (λi _=>n - (intOf i).toNat)
 case atStart=>exact⟨0,Ai _,rfl,(λj hj=>absurd hj (Ak _)),FR.start _ _⟩
 case round =>
  obtain⟨k,hk,rfl,hb,C⟩:=hrel
  by_cases N:k<n
  ·obtain⟨b,o,ha,t0,t1,-,hs,-⟩:=(HT.out.kept C.1).2 k N
   subst ha;have hlt':(k:Int)<(n:Int):=by omega
   have hk0:(0:Int)<=(k:Int):=by omega
   have hkc:(k:Int)<=(cap:Int):=by omega
   generalize R:wr.alloc (Obj.cells #[Value.string (T k).name,Value.slice (T k).fa (T k).nf (T k).fcap] 96)=W;have hB:Below wr.heap.size wr W:=by rw[<-R];exact BW _ _
   have k0:W.cell? ⟨wr.heap.size,0,none⟩=some (.string (T k).name):=by rw[<-R,Ac _ _ _ _ rfl];rfl
   have D:FR w W:=C.next hB
   have HFR:Hid (FR w W):=D;have S:Hid (Cs W (some ⟨b,o,none⟩) n T):=HT.out.kept D.1;clear C hB D;have r0:=As k0;have K:∀d os,Calls Tryz.prog 75 #[.string (T k).name] (grow (redrawn W d) os) λe w''=>e= .returned (.bool (Cb (T k).name))/\∃p:Regrown,w''=grow (redrawn W p.d) p.os:=λd os=>AF (Dv _ _ hs);have L:∀d os,Calls Tryz.prog 103 #[.slice (some ⟨b,o,none⟩) k cap,.string (T k).name] (grow (redrawn W d) os) λe w''=>e= .returned (Gg (some ⟨b,o,none⟩) k T (T k).name)/\∃p:Regrown,w''=grow (redrawn W p.d) p.os:=λd os=>AF (Ge _ _ _ T _ _ ((S.out.less (BF N)).kept (Av W d os)));have U:Hid (∀(d:Nat) (os:Array Obj),FR w (grow (redrawn W d) os)):=λd os=>HFR.out.next (Av W d os)
   cases h1:Cb (T k).name
   ·have c:Hid (CD n T=(6,(k:Int))):=JB HN.out N (Ry h1) hb.out
    rw[h1]at K
    go_wp2_with fail
    clear R;refine Ar (by kernel_rfl) (by kernel_rfl) ?_
    repeat (go_big_quiet_step (first|exact K _ _|exact L _ _))
    refine AK ?_;intro _ y;obtain⟨⟨H,osq⟩,q⟩:=y;subst q;have l:=U.out H osq;generalize grow (redrawn W H) osq=w2 at l ⊢;have u:Hid (FR w w2):=l;obtain⟨-,z1,d0,I,g0,g1⟩:=l;clear r0 K L t0 t1 k0
    go_wp2_with fail
    exact At (v:=.agg #[.int .i64 6,.int .i64 (k:Int)]) (by simp[results,Tryz.results72,go_sem,d0,I]) rfl ⟨by rw[c.out];rfl,u.out.set _ _⟩
   ·rcases F9 k T (T k).name with h2|⟨t,ht,h2⟩
    ·have hb2:Hid (∀j,j<k+1->B6 T j=0):=λj hj=>by
      rcases Nat.lt_succ_iff_lt_or_eq.1 hj with h|h
      ·exact hb j h
      ·rw[h];exact SF h1 h2
     rw[h1]at K;rw[Fa h2]at L;clear h2
     go_wp2_with fail
     clear R;refine Ar (by kernel_rfl) (by kernel_rfl) ?_
     repeat (go_big_quiet_step (first|exact K _ _|exact L _ _))
     refine AK ?_;intro _ y;obtain⟨⟨H,osq⟩,q⟩:=y;subst q;have l:=U.out H osq;generalize grow (redrawn W H) osq=w2 at l ⊢;have u:Hid (FR w w2):=l;obtain⟨-,z1,d0,I,g0,g1⟩:=l;clear r0 K L t0 t1 k0
     go_wp2_with fail
     go_roundw
     case rel=>exact⟨k+1,by omega,by go_num,hb2,u.out⟩
     case measure=>simp[intOf];omega
    ·have c:Hid (CD n T=(6,(k:Int))):=JB HN.out N (Oc h2) hb.out
     rw[h1]at K;rw[Fe h2]at L;clear h2
     go_wp2_with fail
     clear R;refine Ar (by kernel_rfl) (by kernel_rfl) ?_
     repeat (go_big_quiet_step (first|exact K _ _|exact L _ _))
     refine AK ?_;intro _ y;obtain⟨⟨H,osq⟩,q⟩:=y;subst q;have l:=U.out H osq;generalize grow (redrawn W H) osq=w2 at l ⊢;have u:Hid (FR w w2):=l;obtain⟨-,z1,d0,I,g0,g1⟩:=l;clear r0 K L t0 t1 k0
     go_wp2_with fail
     exact At (v:=.agg #[.int .i64 6,.int .i64 (k:Int)]) (by simp[results,Tryz.results72,go_sem,d0,I]) rfl ⟨by rw[c.out];rfl,u.out.set _ _⟩
  ·have hb9:∀j,j<n->B6 T j=0:=λj hj=>hb.out j (by omega)
   have HS:Hid (CD n T=CA n (λi=>Ct n T (T i).nf (T i).F)):=Ll HN.out hb9;have HFR:Hid (FR w wr):=C;clear hb C hb9
   go_wp2_with fail
   go_loopw [39] (λi wr => ∃k:Nat,k<=n/\i= .int .i64 k/\Hid (∀j,j<k->Ct n T (T j).nf (T j).F=0)/\FR w wr) (λi _=>n - (intOf i).toNat)
   case atStart=>exact⟨0,Ai _,rfl,(λj hj=>absurd hj (Ak _)),HFR.out⟩
   case round =>
    obtain⟨k,hk,rfl,hb,C⟩:=hrel
    by_cases N:k<n
    ·obtain⟨b,o,ha,t0,t1,hfcap,hs,hF⟩:=(HT.out.kept C.1).2 k N
     subst ha;have hlt':(k:Int)<(n:Int):=by omega
     have hk0:(0:Int)<=(k:Int):=by omega
     have hnf:(T k).nf<=9223372036854775807:=hF.1;generalize (T k).fa=fa at t1 hF;generalize R:(wr.alloc (Obj.cells #[Value.int IntKind.i64 (k:Int)] 3)).alloc (Obj.cells #[Value.string (T k).name,Value.slice fa (T k).nf (T k).fcap] 96)=W;have hB:Below wr.heap.size wr W:=by rw[<-R];exact CN _ _ _
     have k0:W.cell? ⟨wr.heap.size,0,none⟩=some (.int .i64 (k:Int)):=by rw[<-R,Az _ _ _ (by simp),Ac _ _ _ _ rfl];rfl
     have k1:W.cell? ⟨wr.heap.size+1,1,none⟩=some (.slice fa (T k).nf (T k).fcap):=by rw[<-R,Ac _ _ _ _ (by simp)];rfl
     have hzW:wr.heap.size+1<W.heap.size:=by rw[<-R];simp
     have D:FR w W:=C.next hB
     have V:Hid (FR w W):=D;have S:Hid (Cs W (some ⟨b,o,none⟩) n T):=HT.out.kept D.1;have HFW:Hid (Cl W fa (T k).nf (T k).F):=hF.kept hB;have X:Hid (∀e:Int,Ct n T (T k).nf (T k).F=e->e≠0->CD n T=(e,(k:Int))):=λe he h0=>by
      rw[HS.out,Do N (by rw[he];exact h0) hb.out,he]
     clear C hB D hF
     by_cases h10:10<((T k).nf:Int)
     ·have c:Hid (CD n T=(4,(k:Int))):=X.out 4 (by unfold Ct;rw[Af (by omega)]) (by decide)
      go_wp2_with fail
      clear R;refine(If 4 (k:Int) _ W k0).mono ?_;rintro e w2 ⟨rfl,hw2⟩;have l:=V.out.next hw2
      have u:Hid (FR w w2):=l;obtain⟨-,z1,d0,I,g0,g1⟩:=l;clear hw2 k0 k1 t0 t1 hzW
      go_wp2_with fail
      exact At (v:=.agg #[.int .i64 4,.int .i64 (k:Int)]) (by simp[results,Tryz.results72,go_sem,d0,I]) rfl ⟨by rw[c.out];rfl,u.out.set _ _⟩
     ·have HN10:Hid ((T k).nf<=10):=by unfold Hid;omega
      go_wp2_with fail
      clear R;have J:Hid (∀(e:Int) (w4:World),Below W.heap.size W w4->Calls Tryz.prog 105 #[.int .i64 e,.pointer (some ⟨wr.heap.size,0,none⟩)] w4 λx w'=>x= .returned (.agg #[.int .i64 e,.int .i64 (k:Int)])/\FR w w'):=λe w4 h4 =>
       (If e (k:Int) _ w4 (BR h4 k0)).mono λx w' ⟨hx,y⟩=>⟨hx,(V.out.next h4).next y⟩
      have K1:Hid (W.cell? ⟨wr.heap.size+1,1,none⟩=some (.slice fa (T k).nf (T k).fcap)):=k1;clear t0 t1 k0 k1;generalize wr.heap.size=B5 at *
      go_loopw [54] (λi w3 => ∃j:Nat,j<=(T k).nf/\i= .int .i64 j/\Hid (∀i,i<j->Cm n T (T k).F i=0)/\Below W.heap.size W w3) (λi _=>(T k).nf - (intOf i).toNat)
      case atStart=>exact⟨0,Ai _,rfl,(λj hj=>absurd hj (Ak _)),Aq _ _⟩
      case round =>
       obtain⟨j,hj,rfl,hbj,Y⟩:=hrel
       by_cases Z:j<(T k).nf
       ·obtain⟨b2,o2,ha,f0,f1,f2,hs0,hs2,-⟩:=(HFW.out.kept Y).2 j Z
        subst ha;have hjlt':(j:Int)<((T k).nf:Int):=by omega
        have hj0:(0:Int)<=(j:Int):=by omega
        have hjc:(j:Int)<=((T k).fcap:Int):=by omega
        generalize O:wr.alloc (Obj.cells #[Value.string ((T k).F j).name,Value.int IntKind.i64 ((T k).F j).kind,Value.string ((T k).F j).type] 113)=B;have hB:Below wr.heap.size wr B:=by rw[<-O];exact BW _ _
        have q0:B.cell? ⟨wr.heap.size,0,none⟩=some (.string ((T k).F j).name):=by rw[<-O,Ac _ _ _ _ rfl];rfl
        have q1:B.cell? ⟨wr.heap.size,1,none⟩=some (.int .i64 ((T k).F j).kind):=by rw[<-O,Ac _ _ _ _ rfl];rfl
        have q2:B.cell? ⟨wr.heap.size,2,none⟩=some (.string ((T k).F j).type):=by rw[<-O,Ac _ _ _ _ rfl];rfl
        have M:Hid (Below W.heap.size W B):=Y.trans (hB.mono Y.size);have q3:B.cell? ⟨B5+1,1,none⟩=some (.slice (some ⟨b2,o2,none⟩) (T k).nf (T k).fcap):=BR M.out K1.out;have r0:=As q0;have r1:=As q1;have r2:=As q2;have r3:=As q3;have K:∀d os,Calls Tryz.prog 75 #[.string ((T k).F j).name] (grow (redrawn B d) os) λe w''=>e= .returned (.bool (Cb ((T k).F j).name))/\∃p:Regrown,w''=grow (redrawn B p.d) p.os:=λd os=>AF (Dv _ _ hs0);have L:∀d os,Calls Tryz.prog 41 #[.slice (some ⟨b2,o2,none⟩) j (T k).fcap,.string ((T k).F j).name] (grow (redrawn B d) os) λe w''=>e= .returned (.bool (decide (0<=BX j (T k).F ((T k).F j).name)))/\∃p:Regrown,w''=grow (redrawn B p.d) p.os:=λd os=>AF (J4 _ _ _ (T k).F _ _ (((HFW.out.kept M.out).less (BF Z)).kept (Av B d os)));have z:Hid (∀e:Int,Cm n T (T k).F j=e->e≠0->CD n T=(e,(k:Int))):=λe he h0=>X.out e (by rw[JT HN10.out Z (by rw[he];exact h0) hbj.out,he]) h0;have aa:Hid (Cm n T (T k).F j=0->∀i,i<j+1->Cm n T (T k).F i=0):=λh0 i hi=>by
         rcases Nat.lt_succ_iff_lt_or_eq.1 hi with h|h
         ·exact hbj i h
         ·rw[h];exact h0
        clear hB Y;cases h1:Cb ((T k).F j).name
        ·have c:Hid (CD n T=(6,(k:Int))):=z.out 6 (by unfold Cm;simp[h1]) (by decide)
         rw[h1]at K;clear aa
         go_wp2_with fail
         clear O;refine Ar (by kernel_rfl) (by kernel_rfl) ?_
         repeat (go_big_quiet_step (first|exact K _ _|exact L _ _))
         refine AK ?_;intro _ y;obtain⟨⟨H,osq⟩,q⟩:=y;subst q;have r:Below B.heap.size B (grow (redrawn B H) osq):=Av B H osq;generalize grow (redrawn B H) osq=w5 at r ⊢;have m:Hid (Below W.heap.size W w5):=M.out.trans (r.mono M.out.size);have p1:=BR r q1;have p2:=BR r q2;have HT5:Hid (Cs w5 (some ⟨b,o,none⟩) n T):=S.out.kept m.out;clear r r0 r1 r2 r3 K L q0 q1 q2 q3 f0 f1 f2
         go_wp2_with fail
         refine(J.out 6 _ m.out).mono ?_;rintro e w6 ⟨rfl,g⟩;have s:Hid (FR w w6):=g;obtain⟨-,z1,d0,I,g0,g1⟩:=g
         go_wp2_with fail
         exact At (v:=.agg #[.int .i64 6,.int .i64 (k:Int)]) (by simp[results,Tryz.results72,go_sem,d0,I]) rfl ⟨by rw[c.out];rfl,s.out.set _ _⟩
        cases h2:decide (0<=BX j (T k).F ((T k).F j).name)
        case true =>
         have c:Hid (CD n T=(6,(k:Int))):=z.out 6 (by unfold Cm;simp[h2]) (by decide);rw[h1]at K;rw[h2]at L;clear aa h2
         go_wp2_with fail
         clear O;refine Ar (by kernel_rfl) (by kernel_rfl) ?_
         repeat (go_big_quiet_step (first|exact K _ _|exact L _ _))
         refine AK ?_;intro _ y;obtain⟨⟨H,osq⟩,q⟩:=y;subst q;have r:Below B.heap.size B (grow (redrawn B H) osq):=Av B H osq;generalize grow (redrawn B H) osq=w5 at r ⊢;have m:Hid (Below W.heap.size W w5):=M.out.trans (r.mono M.out.size);have p1:=BR r q1;have p2:=BR r q2;have HT5:Hid (Cs w5 (some ⟨b,o,none⟩) n T):=S.out.kept m.out;clear r r0 r1 r2 r3 K L q0 q1 q2 q3 f0 f1 f2
         go_wp2_with fail
         refine(J.out 6 _ m.out).mono ?_;rintro e w6 ⟨rfl,g⟩;have s:Hid (FR w w6):=g;obtain⟨-,z1,d0,I,g0,g1⟩:=g
         go_wp2_with fail
         exact At (v:=.agg #[.int .i64 6,.int .i64 (k:Int)]) (by simp[results,Tryz.results72,go_sem,d0,I]) rfl ⟨by rw[c.out];rfl,s.out.set _ _⟩
        case false =>
         have hwf:Hid (Cm n T (T k).F j=Gu ((T k).F j).kind ((T k).F j).type (find n T ((T k).F j).type)):=by unfold Hid Cm;simp[h1,h2]
         rw[h1]at K;rw[h2]at L;clear h2
         go_wp2_with fail
         clear O;refine Ar (by kernel_rfl) (by kernel_rfl) ?_
         repeat (go_big_quiet_step (first|exact K _ _|exact L _ _))
         refine AK ?_;intro _ y;obtain⟨⟨H,osq⟩,q⟩:=y;subst q;have r:Below B.heap.size B (grow (redrawn B H) osq):=Av B H osq;generalize grow (redrawn B H) osq=w5 at r ⊢;have m:Hid (Below W.heap.size W w5):=M.out.trans (r.mono M.out.size);have p1:=BR r q1;have p2:=BR r q2;have HT5:Hid (Cs w5 (some ⟨b,o,none⟩) n T):=S.out.kept m.out;clear r r0 r1 r2 r3 K L q0 q1 q2 q3 f0 f1 f2
         go_wp2_with fail
         ·have c:Hid (CD n T=(7,(k:Int))):=z.out 7 (by rw[hwf.out,Ug ‹_› ‹_›]) (by decide)
          refine(J.out 7 _ m.out).mono ?_;rintro e w6 ⟨rfl,g⟩;have s:Hid (FR w w6):=g;obtain⟨-,z1,d0,I,g0,g1⟩:=g
          go_wp2_with fail
          exact At (v:=.agg #[.int .i64 7,.int .i64 (k:Int)]) (by simp[results,Tryz.results72,go_sem,d0,I]) rfl ⟨by rw[c.out];rfl,s.out.set _ _⟩
         ·have hq:Hid (∀i,i<j+1->Cm n T (T k).F i=0):=aa.out (by rw[hwf.out,Uc ‹_› ‹_›])
          exact⟨⟨j+1,by omega,by go_num,hq,m.out⟩,by simp[intOf];omega⟩
         ·have E:Hid (Cm n T (T k).F j=if find n T ((T k).F j).type<0 then 5 else 0):=by unfold Hid;rw[hwf.out,IR (.inl ‹_›)]
          have A:=Ge (some ⟨b,o,none⟩) n cap T ((T k).F j).type w5 HT5.out;rcases F9 n T ((T k).F j).type with Q|⟨t,ht,Q⟩
          ·have c:Hid (CD n T=(5,(k:Int))):=z.out 5 (by rw[E.out,Af Q]) (by decide)
           rw[Fa Q]at A;clear Q;refine A.mono ?_;clear A;rintro e w7 ⟨rfl,G⟩;have P:Hid (Below W.heap.size W w7):=m.out.trans (G.mono m.out.size);clear G p1 p2
           go_wp2_with fail
           refine(J.out 5 _ P.out).mono ?_;rintro e w6 ⟨rfl,g⟩;have s:Hid (FR w w6):=g;obtain⟨-,z1,d0,I,g0,g1⟩:=g
           go_wp2_with fail
           exact At (v:=.agg #[.int .i64 5,.int .i64 (k:Int)]) (by simp[results,Tryz.results72,go_sem,d0,I]) rfl ⟨by rw[c.out];rfl,s.out.set _ _⟩
          ·have hq:Hid (∀i,i<j+1->Cm n T (T k).F i=0):=aa.out (by rw[E.out,Ae (by omega)])
           rw[Fe Q]at A;clear Q;refine A.mono ?_;clear A;rintro e w7 ⟨rfl,G⟩;have P:Hid (Below W.heap.size W w7):=m.out.trans (G.mono m.out.size);clear G p1 p2
           go_wp2_with fail
           exact⟨⟨j+1,by omega,by go_num,hq,P.out⟩,by simp[intOf];omega⟩
         ·have E:Hid (Cm n T (T k).F j=if find n T ((T k).F j).type<0 then 5 else 0):=by unfold Hid;rw[hwf.out,IR (.inr ‹_›)]
          have A:=Ge (some ⟨b,o,none⟩) n cap T ((T k).F j).type w5 HT5.out;rcases F9 n T ((T k).F j).type with Q|⟨t,ht,Q⟩
          ·have c:Hid (CD n T=(5,(k:Int))):=z.out 5 (by rw[E.out,Af Q]) (by decide)
           rw[Fa Q]at A;clear Q;refine A.mono ?_;clear A;rintro e w7 ⟨rfl,G⟩;have P:Hid (Below W.heap.size W w7):=m.out.trans (G.mono m.out.size);clear G p1 p2
           go_wp2_with fail
           refine(J.out 5 _ P.out).mono ?_;rintro e w6 ⟨rfl,g⟩;have s:Hid (FR w w6):=g;obtain⟨-,z1,d0,I,g0,g1⟩:=g
           go_wp2_with fail
           exact At (v:=.agg #[.int .i64 5,.int .i64 (k:Int)]) (by simp[results,Tryz.results72,go_sem,d0,I]) rfl ⟨by rw[c.out];rfl,s.out.set _ _⟩
          ·have hq:Hid (∀i,i<j+1->Cm n T (T k).F i=0):=aa.out (by rw[E.out,Ae (by omega)])
           rw[Fe Q]at A;clear Q;refine A.mono ?_;clear A;rintro e w7 ⟨rfl,G⟩;have P:Hid (Below W.heap.size W w7):=m.out.trans (G.mono m.out.size);clear G p1 p2
           go_wp2_with fail
           exact⟨⟨j+1,by omega,by go_num,hq,P.out⟩,by simp[intOf];omega⟩
         ·have c:Hid (CD n T=(1,(k:Int))):=z.out 1 (by rw[hwf.out,Ui ‹_› ‹_› ‹_›]) (by decide)
          refine(J.out 1 _ m.out).mono ?_;rintro e w6 ⟨rfl,g⟩;have s:Hid (FR w w6):=g;obtain⟨-,z1,d0,I,g0,g1⟩:=g
          go_wp2_with fail
          exact At (v:=.agg #[.int .i64 1,.int .i64 (k:Int)]) (by simp[results,Tryz.results72,go_sem,d0,I]) rfl ⟨by rw[c.out];rfl,s.out.set _ _⟩
       ·have hz:Hid (Ct n T (T k).nf (T k).F=0):=Ko HN10.out (λi hi=>hbj.out i (by omega))
        have hb2:Hid (∀j,j<k+1->Ct n T (T j).nf (T j).F=0):=λi hi=>by
         rcases Nat.lt_succ_iff_lt_or_eq.1 hi with h|h
         ·exact hb i h
         ·rw[h];exact hz.out
        have HFR3:Hid (FR w wr):=V.out.next Y
        go_wp2_with fail
        go_roundw
        case rel=>exact⟨k+1,by omega,by go_num,hb2,HFR3.out⟩
        case measure=>simp[intOf];omega
    ·have c:Hid (CD n T=(0,0)):=by unfold Hid;rw[HS.out];exact Dm λj hj=>hb.out j (by omega)
     have u:Hid (FR w wr):=C;obtain⟨-,z1,d0,I,g0,g1⟩:=C
     go_wp2_with fail
     exact At (v:=.agg #[.int .i64 0,.int .i64 0]) (by simp[results,Tryz.results72,go_sem,d0,I]) rfl ⟨by rw[c.out];rfl,u.out.set _ _⟩
end Go.Proofs.YtjjggefmmeminabGreat
