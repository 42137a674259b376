import Derived.Test.YtjjggefmmeminabGreatJCh
set_option maxRecDepth 100000
set_option maxHeartbeats 4000000
namespace Go.Proofs.YtjjggefmmeminabGreat
open Go.RowKit Go.Sort
theorem Tryz.info140:(Tryz.prog.info? 140).map (λi=>(i.zero,i.size,i.bytes))=some (some (.agg #[.string ⟨#[]⟩,.slice none 0 0,.string ⟨#[]⟩,.slice none 0 0]),4,80):=by kernel_rfl
theorem Kt(S:Nat->PSeen)(fv a:Nat->Value)(k:Nat):(List.range ((k+1)*4)).map (Dy S fv a)=(List.range (k*4)).map (Dy S fv a)++[.string (S k).name,fv k,.string (S k).own,a k]:=by
 rw[show (k+1)*4=k*4+1+1+1+1 by omega,AA,AA,AA,AA];simp only[AH,AG,AI,AR];rw[Jl,LK,show k*4+1+1=k*4+2 by omega,Mb,show k*4+2+1=k*4+3 by omega,LG];rfl
theorem SQ{w l s:World}{base k:Nat}{v y:Value}{fv p:Nat->Value}{S:Nat->PSeen}{f o:Value}{X:Obj}(h:Seens w base v k fv p S)(hk:k<1000)(hb:Below w.heap.size w l)(d:base<=w.heap.size)(hf:B9 l w.heap.size 113 3 f (S k).nf (B2 (S k).F))(ho:B9 l w.heap.size 9 1 o (S k).nf (B3 (S k).O))(m:Kq (S k))(hg:(l.alloc X).grownBy s v.ownBlock)(A:s.ownsRow base 140 4 y (k+1) ((List.range (k*4)).map (Dy S fv p)++[.string (S k).name,f,.string (S k).own,o])) :
  Seens s base y (k+1) (λi=>if i=k then f else fv i) (λi=>if i=k then o else p i) S:=by
 have g:=(h.kept hb).kept (BW l X);have q:=hf.kept (BW l X);have r:=ho.kept (BW l X);refine⟨by unfold maxLen;omega,?_,λi hi=>?_,λi hi=>?_,λi j hi z n b a c=>?_,λi j hi z n b a c=>?_,λi hi=>?_⟩
 ·unfold B9
  rw[Kt];simp only[Af];have e:(List.range (k*4)).map (Dy S (λi=>if i=k then f else fv i) (λi=>if i=k then o else p i))=(List.range (k*4)).map (Dy S fv p):=CX λj z=>by
   unfold Dy;simp[show ¬j / 4=k by omega]
  rw[e];exact A
 ·by_cases e:i=k
  ·subst e
   rw[Af rfl];exact(q.grown hg λb a=>q.ne g.row (by decide) a).base d
  ·rw[Ae e]
   exact(g.fields i (by omega)).grown hg λb a=>(g.fields i (by omega)).ne g.row (by decide) a
 ·by_cases e:i=k
  ·subst e
   rw[Af rfl];exact(r.grown hg λb a=>r.ne g.row (by decide) a).base d
  ·rw[Ae e]
   exact(g.owns i (by omega)).grown hg λb a=>(g.owns i (by omega)).ne g.row (by decide) a
 ·by_cases e:i=k
  ·have e2 : ¬j=k:=by omega
   simp only[e,e2,Af,Bd]at a c;have u:=(hf.lt a).1;have x:=((h.fields j (by omega)).lt c).2;omega
  ·by_cases e2:j=k
   ·simp only[e,e2,Af,Bd]at a c
    have u:=(hf.lt c).1;have x:=((h.fields i (by omega)).lt a).2;omega
   ·simp only[e,e2,Bd]at a c
    exact h.fapart i j (by omega) (by omega) n b a c
 ·by_cases e:i=k
  ·have e2 : ¬j=k:=by omega
   simp only[e,e2,Af,Bd]at a c;have u:=(ho.lt a).1;have x:=((h.owns j (by omega)).lt c).2;omega
  ·by_cases e2:j=k
   ·simp only[e,e2,Af,Bd]at a c
    have u:=(ho.lt c).1;have x:=((h.owns i (by omega)).lt a).2;omega
   ·simp only[e,e2,Bd]at a c
    exact h.oapart i j (by omega) (by omega) n b a c
 ·by_cases e:i=k
  ·rw[e];exact m
  ·exact h.good i (by omega)
theorem Tv(a:Option Addr)(n cap:Nat)(T:Nat->LType)(w:World)(hT:Cs w a n T)(hn:n<=1000)(J:∀i,i<n->(T i).nf<=1000) :
  Calls Tryz.prog 83 #[.slice a n cap] w λe w'=>(∃v fv C,e= .returned v/\Seens w' w.heap.size v n fv C (DK T))/\Below w.heap.size w w':=by
 obtain⟨i0,hi,X,Y,Z⟩:=Cd Tryz.info140;have HT:Hid (Cs w a n T):=hT;have K:Hid (∀i,i<n->(T i).nf<=1000):=J;clear hT J
 go_enter Tryz.func83,Tryz.ntmps83
 go_wp2_with fail
 go_loopw [3,8] (λv i wr => ∃k:Nat,k<=n/\i= .int .i64 k/\Below w.heap.size w wr/\∃fv C,Seens wr w.heap.size v k fv C (DK T)) (λ_ i _=>n - (intOf i).toNat)
 case atStart=>exact⟨0,Ai _,rfl,Aq _ _,λ_=>.slice none 0 0,λ_=>.slice none 0 0,Ai _,A4 _ _ _ _,λi hi=>absurd hi (Ak _),λi hi=>absurd hi (Ak _),λi _ hi=>absurd hi (Ak _),λi _ hi=>absurd hi (Ak _),λi hi=>absurd hi (Ak _)⟩
 case round =>
  obtain⟨k,hk,rfl,G,fv,C,m⟩:=hrel;obtain⟨a',c',hv,-⟩:=m.slice;subst hv
  by_cases D:k<n
  ·obtain⟨b,o,rfl,t0,t1,hfc,hs,hF⟩:=(HT.out.kept G).2 k D
   have hlt':(k:Int)<(n:Int):=by omega
   have hk0:(0:Int)<=(k:Int):=by omega
   generalize L:wr.alloc (Obj.cells #[.string (T k).name,.slice (T k).fa (T k).nf (T k).fcap] 96)=W;have hB:Below wr.heap.size wr W:=by rw[<-L];exact BW _ _
   have U:W.cell? ⟨wr.heap.size,0,none⟩=some (.string (T k).name):=by rw[<-L,Ac _ _ _ _ rfl];rfl
   have V:W.cell? ⟨wr.heap.size,1,none⟩=some (.slice (T k).fa (T k).nf (T k).fcap):=by rw[<-L,Ac _ _ _ _ rfl];rfl
   have HC:Hid (∀l,Below W.heap.size W l->Calls Tryz.prog 117 #[.agg #[.string (T k).name,.slice (T k).fa (T k).nf (T k).fcap]] l λe w'=>(∃a cap,e= .returned (.agg #[.string (T k).name,.slice a (T k).nf cap])/\B9 w' wr.heap.size 113 3 (.slice a (T k).nf cap) (T k).nf (B2 (T k).F))/\Below l.heap.size l w'/\Below W.heap.size W w'):=λl c=>(MQ _ _ _ _ (T k).F l ((hF.kept hB).kept c) (K.out k D)).mono λe w' h=>by
    obtain⟨⟨a,cap,h1,-,h2⟩,h3⟩:=h;exact⟨⟨a,cap,h1,h2.base (Am hB.size c.size)⟩,h3,c.trans (h3.mono c.size)⟩
   have HM:Hid (∀l,Below W.heap.size W l->Calls Tryz.prog 118 #[.slice (T k).fa (T k).nf (T k).fcap] l λe w'=>(∃a cap,e= .returned (.slice a (T k).nf cap)/\B9 w' wr.heap.size 9 1 (.slice a (T k).nf cap) (T k).nf (B3 (λj=>((T k).F j).name)))/\Below l.heap.size l w'/\Below W.heap.size W w'):=λl c=>(Rb _ _ _ (T k).F l ((hF.kept hB).kept c) (K.out k D)).mono λe w' h=>by
    obtain⟨⟨a,cap,h1,-,h2⟩,h3⟩:=h;exact⟨⟨a,cap,h1,h2.base (Am hB.size c.size)⟩,h3,c.trans (h3.mono c.size)⟩
   have HGd:Hid (Kq (DK T k)):=⟨hs,hs,hF.1,λj hj=>by obtain⟨_,_,_,_,_,_,q⟩:=hF.2 j hj;exact q,λj hj=>by obtain⟨_,_,_,_,_,_,q,_⟩:=hF.2 j hj;exact q⟩;have y:Hid (Below wr.heap.size wr W):=hB;have HW:Hid (Below w.heap.size w wr):=G;have M:Hid (Seens wr w.heap.size (.slice a' k c') k fv C (DK T)):=m;have N:Below W.heap.size W W.drew:=(Aq _ _).drew;have hz:wr.heap.size<W.heap.size:=by rw[<-L];simp
   have O:w.heap.size<=wr.heap.size:=G.size;clear m G hB hF
   go_wp2_with fail
   clear L t0 t1
   go_region_law (first
    | (refine GU rfl (.tmp 12) (.tmp 21) 136 rfl w.heap.size 140 i0 _ 4 80 Tryz.underlying136 hi X Y Z rfl (by decide) (.slice a' k c') k _ (by simp[Act.eval]) ((M.out.kept g.out).kept (BW p _)).row (some ⟨p.heap.size,0,none⟩) 1 1 [.string (T k).name,.slice H (T k).nf c1,.string (T k).name,.slice I (T k).nf c2] (by simp[Act.eval]) rfl (CI p #[.string (T k).name,.slice H (T k).nf c1,.string (T k).name,.slice I (T k).nf c2] _) (λh=>by cases h) (by intro u hu;simp at hu;rcases hu with rfl|rfl|rfl|rfl<;>rfl) (by unfold maxLen;omega) (by omega) (by have:=g.out.size;simp;omega) ?_;intro v' w4 B E;have HE:Hid (Seens w4 w.heap.size v' (k+1) _ _ (DK T)):=SQ M.out (by omega) g.out O P.out Q.out HGd.out E B;have HB4:Hid (Below w.heap.size w w4):=((HW.out.trans (g.out.mono O)).trans ((BW p _).mono (by have:=g.out.size;omega))).grown E (by have:=g.out.size;simp;omega) (λk' hk'=>(M.out.row.lt hk').1);clear B E)
    | (go_simp;go_at_call 117;refine(HC.out _ z).mono ?_;rintro e p ⟨⟨H,c1,rfl,r⟩,s,d⟩;have Q:Hid (B9 p wr.heap.size 9 1 (.slice I (T k).nf c2) (T k).nf (B3 (λj=>((T k).F j).name))):=R.out.kept s;have P:Hid (B9 p wr.heap.size 113 3 (.slice H (T k).nf c1) (T k).nf (B2 (T k).F)):=r;have g:Hid (Below wr.heap.size wr p):=y.out.trans (d.mono y.out.size);have m0':=BR d U;have m1':=BR d V;clear r s d z)
    | (go_simp;go_at_call 118;refine(HM.out _ A).mono ?_;rintro e p ⟨⟨I,c2,rfl,x⟩,s,d⟩;have P:Hid (B9 p wr.heap.size 113 3 (.slice H (T k).nf c1) (T k).nf (B2 (T k).F)):=S.out.kept s;have Q:Hid (B9 p wr.heap.size 9 1 (.slice I (T k).nf c2) (T k).nf (B3 (λj=>((T k).F j).name))):=x;have g:Hid (Below wr.heap.size wr p):=y.out.trans (d.mono y.out.size);have m0':=BR d U;have m1':=BR d V;clear x s d A)
    | (go_simp;go_at_call 117;refine(HC.out _ N).mono ?_;rintro e wF ⟨⟨H,c1,rfl,r⟩,-,A⟩;have S:Hid (B9 wF wr.heap.size 113 3 (.slice H (T k).nf c1) (T k).nf (B2 (T k).F)):=r;have mF0:=BR A U;have mF1:=BR A V;clear r)
    | (go_simp;go_at_call 118;refine(HM.out _ N).mono ?_;rintro e wN ⟨⟨I,c2,rfl,x⟩,-,z⟩;have R:Hid (B9 wN wr.heap.size 9 1 (.slice I (T k).nf c2) (T k).nf (B3 (λj=>((T k).F j).name))):=x;have mN0:=BR z U;have mN1:=BR z V;clear x))
   all_goals (
    go_wp2_with fail
    go_roundw
    case rel=>exact⟨k+1,by omega,by go_num,HB4.out,_,_,HE.out⟩
    case measure=>simp[intOf];omega)
  ·have hkn:k=n:=by omega
   subst hkn;have M:Hid (Seens wr w.heap.size (.slice a' k c') k fv C (DK T)):=m;have HW:Hid (Below w.heap.size w wr):=G;clear m G
   go_wp2_with fail
   go_ret;exact⟨⟨_,fv,C,rfl,M.out⟩,HW.out⟩
def Sc (w:World) (b o:Nat) (c:PChange):Prop :=
 w.cell? ⟨b,o,none⟩=some (.int .i64 c.kind)/\w.cell? ⟨b,o+1,none⟩=some (.string c.type)/\w.cell? ⟨b,o+2,none⟩=some (.string c.field)/\w.cell? ⟨b,o+3,none⟩=some (.string c.to)/\BY c.type/\BY c.field/\BY c.to
def EI (w:World) (a:Option Addr) (n:Nat) (C:Nat->PChange):Prop:=n<=maxLen/\∀i,i<n->∃b o,a=some ⟨b,o,none⟩/\Sc w b (o+i*4) (C i)
theorem EI.kept{w w':World}(h:Below w.heap.size w w'){a:Option Addr}{n:Nat}{C:Nat->PChange}(hc:EI w a n C):EI w' a n C :=
 ⟨hc.1,λi hi=>let ⟨b,o,e,h0,h1,h2,h3,hs⟩:=hc.2 i hi;⟨b,o,e,BR h h0,BR h h1,BR h h2,BR h h3,hs⟩⟩
structure FB (w wr:World):Prop where
 below:Below w.heap.size w wr
 lt:w.heap.size<wr.heap.size
 c0:wr.cell? ⟨w.heap.size,0,none⟩=some (.int .i64 0)
 c1:wr.cell? ⟨w.heap.size,1,none⟩=some (.int .i64 0)
 z0:wr.frozen? ⟨w.heap.size,0,none⟩=false
 z1:wr.frozen? ⟨w.heap.size,1,none⟩=false
theorem FB.next{w wr w':World}{B:Nat}(h:FB w wr)(hb:Below B wr w')(hB:w.heap.size<B):FB w w' :=
 ⟨h.below.trans (hb.mono (BF hB)),Ah h.lt hb.size,(hb.cell (p:=⟨w.heap.size,0,none⟩) hB).trans h.c0,(hb.cell (p:=⟨w.heap.size,1,none⟩) hB).trans h.c1,(hb.frozen (p:=⟨w.heap.size,0,none⟩) hB).trans h.z0,(hb.frozen (p:=⟨w.heap.size,1,none⟩) hB).trans h.z1⟩
theorem FB.start(w:World)(t:TypeId):FB w (w.alloc (.cells #[.int .i64 0,.int .i64 0] t)) :=
 ⟨(Aq _ _).alloc (Aj _) _,by simp,by rw[Ac _ _ _ _ rfl];rfl,by rw[Ac _ _ _ _ rfl];rfl,AZ _ _ _ _ rfl,AZ _ _ _ _ rfl⟩
theorem FB.set{w wr:World}(h:FB w wr)(u v:Value):Below w.heap.size w ((wr.setCell ⟨w.heap.size,0,none⟩ u).setCell ⟨w.heap.size,1,none⟩ v) :=
 (h.below.setCell (Aj _) _).setCell (Aj _) _
theorem Seens.low{w:World}{base n:Nat}{v:Value}{fv a:Nat->Value}{S:Nat->PSeen}(h:Seens w base v n fv a S){p:Addr}(b:p.block<base)(u:Value):Seens (w.setCell p u) base v n fv a S :=
 ⟨h.nmax,h.row.set_other (λe=>by have:=(h.row.lt e).1;omega) _,λi hi=>(h.fields i hi).set_other (λe=>by have:=((h.fields i hi).lt e).1;omega) _,λi hi=>(h.owns i hi).set_other (λe=>by have:=((h.owns i hi).lt e).1;omega) _,h.fapart,h.oapart,h.good⟩
theorem Seens.base{w:World}{base a n:Nat}{v:Value}{fv b:Nat->Value}{S:Nat->PSeen}(h:Seens w base v n fv b S)(hb:a<=base):Seens w a v n fv b S :=
 ⟨h.nmax,h.row.base hb,λi hi=>(h.fields i hi).base hb,λi hi=>(h.owns i hi).base hb,h.fapart,h.oapart,h.good⟩
theorem Ph{n m:Nat}{T:Nat->LType}{C:Nat->PChange}(h:(CD n T).1≠0):EZ n T m C=CD n T:=by unfold EZ;rw[Af h]
theorem RU{n m:Nat}{T:Nat->LType}{C:Nat->PChange}(h:(CD n T).1=0)(a:12<m):EZ n T m C=(4,0):=by unfold EZ;rw[Ae (by omega),Af a]
theorem Si{n m:Nat}{T:Nat->LType}{C:Nat->PChange}(h:(CD n T).1=0)(a : ¬12<m):EZ n T m C=CA m (O4 n (DK T) C):=by unfold EZ;rw[Ae (by omega),Ae a]
theorem QG(a ca:Option Addr)(n cap m S:Nat)(T:Nat->LType)(C:Nat->PChange)(w:World)(hT:Cs w a n T)(hC:EI w ca m C)(U:n<=cap) :
  Calls Tryz.prog 56 #[.slice a n cap,.slice ca m S] w λe w'=>(∃v,e= .returned (.tuple #[v,Dj (EZ n T m C)])/\((EZ n T m C).1≠0->v= .slice none 0 0)/\((EZ n T m C).1=0->∃fv z,Seens w' w.heap.size v n fv z (Hu n (DK T) C m)))/\Below w.heap.size w w':=by
 have hm:m<=9223372036854775807:=hC.1;have HT:Hid (Cs w a n T):=hT;have HC:Hid (EI w ca m C):=hC;have hfd:=FZ;clear hT hC
 go_enter Tryz.func56,Tryz.ntmps56
 go_wp2_with fail
 have B:=FB.start w 39;generalize w.alloc (Obj.cells #[.int .i64 0,.int .i64 0] 39)=W at *;refine(Q4 a n cap T W (HT.out.kept B.below) U).mono ?_;rintro e G ⟨rfl,V⟩;have u:=B.next V B.lt
 clear V B;unfold Dj
 by_cases h1:(CD n T).1=0
 case neg =>
  have c:Hid (EZ n T m C=CD n T):=Ph h1;have h1b:((CD n T).1 != 0)=true:=by simpa using h1
  have P:Hid ((CD n T).1≠0):=h1;clear h1;generalize CD n T=r at *;have d:=u.next (BW G (Obj.cells #[.int .i64 r.1,.int .i64 r.2] 39)) u.lt
  generalize x:G.alloc (Obj.cells #[.int .i64 r.1,.int .i64 r.2] 39)=A at *;have k0:A.cell? ⟨G.heap.size,0,none⟩=some (.int .i64 r.1):=by rw[<-x,Ac _ _ _ _ rfl];rfl
  have k1:A.cell? ⟨G.heap.size,1,none⟩=some (.int .i64 r.2):=by rw[<-x,Ac _ _ _ _ rfl];rfl
  have H:=d.c0;have I:=d.c1;have z0:=d.z0;have z1:=d.z1;have s:Hid (FB w A):=d;clear u d
  go_wp2_with fail
  clear x
  go_region
  go_wp2_with fail
  exact At (v:=.tuple #[.slice none 0 0,.agg #[.int .i64 r.1,.int .i64 r.2]]) (by simp[results,Tryz.results56,go_sem,H,I]) rfl ⟨⟨_,by rw[c.out];rfl,λ_=>rfl,λh=>absurd (by rw[<-c.out];exact h) P.out⟩,(s.out.set _ _).drew⟩
 have h1b:((CD n T).1 != 0)=false:=by simpa using h1
 have P:Hid ((CD n T).1=0):=h1;clear h1;generalize hr:CD n T=r at *;have d:=u.next (BW G (Obj.cells #[.int .i64 r.1,.int .i64 r.2] 39)) u.lt
 generalize x:G.alloc (Obj.cells #[.int .i64 r.1,.int .i64 r.2] 39)=A at *;have k0:A.cell? ⟨G.heap.size,0,none⟩=some (.int .i64 r.1):=by rw[<-x,Ac _ _ _ _ rfl];rfl
 have HR:Hid (CD n T=r):=hr;clear hr
 by_cases h2:12<(m:Int)
 ·have c:Hid (EZ n T m C=(4,0)):=RU (by rw[HR.out];exact P.out) (by omega)
  have H:=d.c0;have I:=d.c1;have z0:=d.z0;have z1:=d.z1;have s:Hid (FB w A):=d;clear u d
  go_wp2_with fail
  exact At (v:=.tuple #[.slice none 0 0,.agg #[.int .i64 4,.int .i64 0]]) (by simp[results,Tryz.results56,go_sem,H,I]) rfl ⟨⟨_,by rw[c.out];rfl,λ_=>rfl,λh=>by rw[c.out]at h;simp at h⟩,s.out.set _ _⟩
 have HM:Hid (¬12<m):=by unfold Hid;omega
 have s:Hid (FB w A):=d;have q:=Hj.1 (show (CD n T).1=0 by rw[HR.out];exact P.out);have X:Hid (EZ n T m C=CA m (O4 n (DK T) C)):=Si (by rw[HR.out];exact P.out) HM.out;have Y:=Tv a n cap T A (HT.out.kept d.below) (by have:=q.few;omega) (λi hi=>by have:=(q.fld i hi).few;omega);clear u d q P HR
 go_wp2_with fail
 clear x k0;refine Y.mono ?_;clear Y;rintro e w3 ⟨⟨v,fv,z,rfl,J⟩,K⟩;have Z:=s.out.next K s.out.lt
 have D:w.heap.size<A.heap.size:=s.out.lt;have hz3:A.heap.size<=w3.heap.size:=K.size;generalize A.heap.size=base at *;have HF3:Hid (FB w w3):=Z;have HS3:Hid (Seens w3 base v n fv z (DK T)):=J;obtain⟨va,vc,rfl,-⟩:=J.slice;clear Z J K s
 go_wp2_with fail
 go_loopw [25] (λi wr => ∃k:Nat,k<=m/\i= .int .i64 k/\Hid (∀j,j<k->O4 n (DK T) C j=0)/\FB w wr/\base<=wr.heap.size/\∃fv z,Seens wr base (.slice va n vc) n fv z (Hu n (DK T) C k)) (λi _=>m - (intOf i).toNat)
 case atStart=>exact⟨0,Ai _,rfl,(λj hj=>absurd hj (Ak _)),HF3.out,hz3,_,_,HS3.out⟩
 case round =>
  obtain⟨k,hk,rfl,hb,l,aa,fv',ov',E⟩:=hrel
  by_cases ab:k<m
  ·obtain⟨b,o,rfl,q0,q1,q2,q3,-,-,hsm⟩:=(HC.out.kept l.below).2 k ab
   have hlt':(k:Int)<(m:Int):=by omega
   have hk0:(0:Int)<=(k:Int):=by omega
   generalize Q:wr.alloc (Obj.cells #[.int .i64 (C k).kind,.string (C k).type,.string (C k).field,.string (C k).to] 160)=F;have hB:Below wr.heap.size wr F:=by rw[<-Q];exact BW _ _
   have m0:F.cell? ⟨wr.heap.size,0,none⟩=some (.int .i64 (C k).kind):=by rw[<-Q,Ac _ _ _ _ rfl];rfl
   have m1:F.cell? ⟨wr.heap.size,1,none⟩=some (.string (C k).type):=by rw[<-Q,Ac _ _ _ _ rfl];rfl
   have m2:F.cell? ⟨wr.heap.size,2,none⟩=some (.string (C k).field):=by rw[<-Q,Ac _ _ _ _ rfl];rfl
   have m3:F.cell? ⟨wr.heap.size,3,none⟩=some (.string (C k).to):=by rw[<-Q,Ac _ _ _ _ rfl];rfl
   have ac:=l.next hB l.lt
   have L:=RB base n _ fv' ov' (Hu n (DK T) C k) (C k) F (E.kept hB) hsm (Am aa hB.size);unfold Hq at L;have ad:Hid (FB w F):=ac;have ae:base<=F.heap.size:=Am aa hB.size;clear ac l E hB
   go_wp2_with fail
   clear Q;refine L.mono ?_;clear L;rintro e w5 ⟨rfl,af,M⟩;have y:=ad.out.next M D
   have hz5:base<=w5.heap.size:=Am ae M.size;have HS5:Hid (∃fv z,Seens w5 base (.slice va n vc) n fv z (Hu n (DK T) C (k+1))):=af;have H:=y.c0;have I:=y.c1;have z0:=y.z0;have z1:=y.z1;have ag:Hid (FB w w5):=y;clear af M y ad ae m0 m1 m2 m3 q0 q1 q2 q3;have N:Hid ((EF n (Hu n (DK T) C k) (C k)).1=O4 n (DK T) C k):=rfl;generalize (EF n (Hu n (DK T) C k) (C k)).1=R at *
   by_cases O:R=0
   ·have h5b:(R != 0)=false:=by simpa using O
    have hb2:Hid (∀j,j<k+1->O4 n (DK T) C j=0):=λj hj=>by
     rcases Nat.lt_succ_iff_lt_or_eq.1 hj with h|h
     ·exact hb j h
     ·rw[h,<-N.out];exact O
    clear O
    go_wp2_with fail
    go_roundw
    case rel=>exact⟨k+1,by omega,by go_num,hb2,ag.out,hz5,HS5.out⟩
    case measure=>simp[intOf];omega
   ·have h5b:(R != 0)=true:=by simpa using O
    have c:Hid (EZ n T m C=(R,(k:Int))):=by
     unfold Hid;rw[X.out,Do (g:=O4 n (DK T) C) ab (by rw[<-N.out];exact O) hb.out,<-N.out]
    have H5:Hid (¬R=0):=O;clear O
    go_wp2_with fail
    exact At (v:=.tuple #[.slice none 0 0,.agg #[.int .i64 R,.int .i64 k]]) (by simp[results,Tryz.results56,go_sem,H,I]) rfl ⟨⟨_,by rw[c.out];rfl,λ_=>rfl,λh=>absurd (by rw[c.out]at h;exact h) H5.out⟩,ag.out.set _ _⟩
  ·have ah:k=m:=by omega
   have c:Hid (EZ n T m C=(0,0)):=by unfold Hid;rw[X.out];exact Dm λj hj=>hb j (by omega)
   have HSm:Hid (∃fv z,Seens wr base (.slice va n vc) n fv z (Hu n (DK T) C m)):=by rw[<-ah];exact⟨_,_,E⟩
   have H:=l.c0;have I:=l.c1;have z0:=l.z0;have z1:=l.z1;have HFr:Hid (FB w wr):=l;clear ah E l
   go_wp2_with fail
   exact At (v:=.tuple #[.slice va n vc,.agg #[.int .i64 0,.int .i64 0]]) (by simp[results,Tryz.results56,go_sem,H,I]) rfl ⟨⟨_,by rw[c.out];rfl,λh=>absurd (by rw[c.out]) h,λ_=>by
    obtain⟨fv,z,hS⟩:=HSm.out;exact⟨fv,z,((hS.low (p:=⟨w.heap.size,0,none⟩) D _).low (p:=⟨w.heap.size,1,none⟩) D _).base (BF D)⟩⟩,HFr.out.set _ _⟩
end Go.Proofs.YtjjggefmmeminabGreat
