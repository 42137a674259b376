import Derived.Test.YtjjggefmmeminabGreatJRe
import Derived.Test.YtjjggefmmeminabGreatRyCalled
set_option maxRecDepth 100000
set_option maxHeartbeats 4000000
namespace Go.Proofs.YtjjggefmmeminabGreat
open Go.RowKit Go.Sort Go.PlainAid
def MK (d:Nat):Prop := ∀(a:Option Addr) (cap:Nat) (L:List (Cg d)) (deep Eu:Nat) (w:World),CB w d a L->Eu<=60->deep<=9 ->
  Calls Tryz.prog 76 #[.slice a L.length cap,.int .i64 (deep:Int),.int .i64 (Eu:Int)] w λe w'=>e= .returned (.tuple #[.int .i64 (wL d deep Eu L).1,.int .i64 ((wL d deep Eu L).2:Int)])/\Below w.heap.size w w'
theorem Nt(d:Nat)(hp:∀d',d=d' + 1->MK d'):MK d:=by
 intro a cap L deep Eu w hP Q hdeep;have hn:L.length<=9223372036854775807:=hP.max;have HP:=C6 hP;clear hP
 by_cases h8:8<deep
 ·have O:Hid (wL d deep Eu L=(3,Eu)):=by unfold wL;rw[Af h8];rfl
  have h8':(8:Int)<(deep:Int):=by omega
  go_enter Tryz.func76,Tryz.ntmps76
  go_wp2_with fail
  go_ret2
  exact⟨by rw[O.out];rfl,Aq _ _⟩
 have h8' : ¬(8:Int)<(deep:Int):=by omega
 by_cases h0:L.length=0
 ·have O:Hid (wL d deep Eu L=(4,Eu)):=by unfold wL;rw[Ae h8,Af (by rw[BE];exact AC h0)];rfl
  have h0':((L.length:Int)==0)=true:=by rw[beq_iff_eq];omega
  clear h0
  go_enter Tryz.func76,Tryz.ntmps76
  go_wp2_with fail
  go_ret2
  exact⟨by rw[O.out];rfl,Aq _ _⟩
 have h0':((L.length:Int)==0)=false:=by rw[Bc];omega
 cases d with
 |zero=>exact absurd (by rw[MN L];rfl) h0
 |succ d =>
 have HQ:=C6 (hp d rfl);have O:Hid (wL (d+1) deep Eu L=wR (d+1) deep Eu L):=by
  unfold wL;rw[Ae h8,Ae (λh=>h0 (by rw[List.isEmpty_iff.1 h];rfl))];rfl
 clear hp h0
 go_enter Tryz.func76,Tryz.ntmps76
 go_wp2_with fail
 go_loopw [2,20] (λv i wr => ∃k c:Nat,k<=L.length/\i= .int .i64 k/\v= .int .i64 c/\c<=60/\Hid (wR (d+1) deep Eu L=wR (d+1) deep c (L.drop k))/\Below w.heap.size w wr) (λ_ i _=>L.length - (intOf i).toNat)
 case atStart=>exact⟨0,Eu,Ai _,rfl,rfl,Q,rfl,Aq _ _⟩
 case round =>
  obtain⟨k,c,hk,rfl,rfl,hc,HR,B⟩:=hrel
  by_cases R:k<L.length
  ·obtain⟨b,o,A,C,ha,c0,c1,c2,hC,s0,s1,hs⟩:=(HP.out.kept B).2 k R
   subst ha;have hlt':(k:Int)<(L.length:Int):=by omega
   have hk0:(0:Int)<=(k:Int):=by omega
   generalize S:wr.alloc (Obj.cells #[.string (Di (BS L k)),.string (BT (BS L k)),.slice A (subs (BS L k)).length C] 72)=V;have I:Below wr.heap.size wr V:=by rw[<-S];exact BW _ _
   have v0:V.cell? ⟨wr.heap.size,0,none⟩=some (.string (Di (BS L k))):=by rw[<-S,Ac _ _ _ _ rfl];rfl
   have v1:V.cell? ⟨wr.heap.size,1,none⟩=some (.string (BT (BS L k))):=by rw[<-S,Ac _ _ _ _ rfl];rfl
   have v2:V.cell? ⟨wr.heap.size,2,none⟩=some (.slice A (subs (BS L k)).length C):=by rw[<-S,Ac _ _ _ _ rfl];rfl
   have HD:Hid (wR (d+1) deep c (L.drop k)=if (wP d deep c (BS L k)).1≠0 then wP d deep c (BS L k) else wR (d+1) deep (wP d deep c (BS L k)).2 (L.drop (k+1))):=by rw[Hm R,J2];rfl
   have P:Hid (wP d deep c (BS L k)=if 60<c+1 then (4,c+1) else if Dp (BS L k) then (6,c+1) else if (subs (BS L k)).isEmpty then (0,c+1) else wL d (deep+1) (c+1) (subs (BS L k))):=rfl
   have u:Hid ((wP d deep c (BS L k)).1≠0->wL (d+1) deep Eu L=wP d deep c (BS L k)):=λh=>by rw[O.out,HR.out,HD.out,Af h]
   have J:Hid ((wP d deep c (BS L k)).1=0->wR (d+1) deep Eu L=wR (d+1) deep (wP d deep c (BS L k)).2 (L.drop (k+1))):=λh=>by rw[HR.out,HD.out,Ae (by simp[h])]
   have G:Hid (Below w.heap.size w V):=B.trans (I.mono B.size);have HS:Hid (CB V d A (subs (BS L k))):=hs.kept I;clear B I hs hC HD HR;generalize BS L k=p at *
   by_cases K:60<c+1
   ·have T:(60:Int)<(c:Int)+1:=by omega
    have HP1:Hid (wP d deep c p=(4,c+1)):=by rw[P.out,Af K];rfl
    have g:Hid (wL (d+1) deep Eu L=(4,c+1)):=by
     have h:=HP1.out;have h2:=u.out (by rw[h];exact(by decide:(4:Int)≠0));rw[h]at h2;exact h2
    clear K
    go_wp2_with fail
    go_ret2
    exact⟨by rw[g.out];rfl,G.out⟩
   have T : ¬(60:Int)<(c:Int)+1:=by omega
   rw[Ae K]at P;have j:=Dv (BT p) V s1
   go_wp2_with fail
   clear S c0 c1 c2;refine j.mono ?_;clear j v1;rintro e U ⟨rfl,D⟩;have v0:=BR D v0;have v2:=BR D v2;have y:Hid (Below w.heap.size w U):=G.out.trans (D.mono G.out.size);have HS1:=C6 (HS.out.kept D);clear D G HS;have H6:Hid (Dp p=true->wL (d+1) deep Eu L=(6,c+1)):=λh=>by
    have e:wP d deep c p=(6,c+1):=by rw[P.out,Af h]
    rw[u.out (by rw[e];exact(by decide:(6:Int)≠0)),e]
   have H0:Hid (Dp p=false->(subs p).length=0->wR (d+1) deep Eu L=wR (d+1) deep (c+1) (L.drop (k+1))):=λh z=>by
    have e:wP d deep c p=(0,c+1):=by rw[P.out,Ae (by rw[h];decide),Af (by rw[BE];exact AC z)]
    have h2:=J.out (by rw[e]);rw[e]at h2;exact h2
   have HL:Hid (Dp p=false->(subs p).length≠0->wP d deep c p=wL d (deep+1) (c+1) (subs p)):=λh z=>by
    rw[P.out,Ae (by rw[h];decide),Ae (λh=>z (by rw[List.isEmpty_iff.1 h];rfl))]
   have W:=Nc (Di p);have X:=C6 (Ub d deep c p hc);have x:Hid (∀H,Dp p=false->Below U.heap.size U H->(subs p).length≠0->Calls Tryz.prog 76 #[.slice A (subs p).length C,.int .i64 ((deep:Int)+1),.int .i64 ((c:Int)+1)] H λe w'=>e= .returned (.tuple #[.int .i64 (wP d deep c p).1,.int .i64 ((wP d deep c p).2:Int)])/\Below w.heap.size w w'):=λH h h2 z=>by
    rw[HL.out h z];exact(HQ.out A C (subs p) (deep+1) (c+1) H (HS1.out.kept h2) (by omega) (by omega)).mono λe w' hh=>⟨hh.1,y.out.trans ((h2.trans (hh.2.mono h2.size)).mono y.out.size)⟩
   clear P HL
   cases l:Cb (BT p) with
   |false =>
    have g:=C6 (H6.out (by unfold Dp;rw[l];rfl));clear l
    go_wp2_with fail
    go_ret2
    exact⟨by rw[g.out];rfl,y.out⟩
   |true =>
    cases he:Ri (Di p) with
    |true =>
     have m:Dp p=false:=by unfold Dp;rw[l,he];rfl
     rw[he]at W
     by_cases z:(subs p).length=0
     ·have n:=C6 (H0.out m z)
      have M:c+1<=60:=by omega
      clear m l he
      go_wp2_with fail
      go_roundw
      case rel=>exact⟨k+1,c+1,by omega,by go_num,by go_num,M,n,y.out⟩
      case measure=>simp[intOf];omega
     ·have j:=x.out U m (Aq _ _) z
      have hz':0<((subs p).length:Int):=by omega
      clear m l he z x H0 H6;generalize wP d deep c p=r at *
      go_wp2_with fail
      refine j.mono ?_;clear j;rintro e H ⟨rfl,q⟩
      by_cases s:r.1=0
      ·have N:(r.1 != 0)=false:=by simpa using s
       have n:=C6 (J.out s);have E:=X.out.2 s;clear s
       go_wp2_with fail
       go_roundw
       case rel=>exact⟨k+1,r.2,by omega,by go_num,rfl,E,n,q⟩
       case measure=>simp[intOf];omega
      ·have N:(r.1 != 0)=true:=by simpa using s
       have g:=C6 (u.out s);clear s
       go_wp2_with fail
       go_ret2
       exact⟨by rw[g.out];rfl,q⟩
    |false =>
     rw[he]at W;have j:=Dv (Di p) U s0
     go_wp2_with fail
     refine j.mono ?_;clear j;rintro e H ⟨rfl,q⟩;have v2:=BR q v2;have Y:Hid (Below w.heap.size w H):=y.out.trans (q.mono y.out.size);have HW2:=C6 q;clear q
     cases F:Cb (Di p) with
     |false =>
      have g:=C6 (H6.out (by unfold Dp;rw[l,F,he];rfl));clear l F he
      go_wp2_with fail
      go_ret2
      exact⟨by rw[g.out];rfl,Y.out⟩
     |true =>
      have m:Dp p=false:=by unfold Dp;rw[l,F];simp
      by_cases z:(subs p).length=0
      ·have n:=C6 (H0.out m z)
       have M:c+1<=60:=by omega
       clear m l F he
       go_wp2_with fail
       go_roundw
       case rel=>exact⟨k+1,c+1,by omega,by go_num,by go_num,M,n,Y.out⟩
       case measure=>simp[intOf];omega
      ·have j:=x.out H m HW2.out z
       have hz':0<((subs p).length:Int):=by omega
       clear m l F he z x H0 H6;generalize wP d deep c p=r at *
       go_wp2_with fail
       refine j.mono ?_;clear j;rintro e w3 ⟨rfl,Z⟩
       by_cases s:r.1=0
       ·have N:(r.1 != 0)=false:=by simpa using s
        have n:=C6 (J.out s);have E:=X.out.2 s;clear s
        go_wp2_with fail
        go_roundw
        case rel=>exact⟨k+1,r.2,by omega,by go_num,rfl,E,n,Z⟩
        case measure=>simp[intOf];omega
       ·have N:(r.1 != 0)=true:=by simpa using s
        have g:=C6 (u.out s);clear s
        go_wp2_with fail
        go_ret2
        exact⟨by rw[g.out];rfl,Z⟩
  ·have aa:k=L.length:=by omega
   have n:Hid (wL (d+1) deep Eu L=(0,c)):=by rw[O.out,HR.out,aa,List.drop_length,MZ];rfl
   clear aa
   go_wp2_with fail
   go_ret2
   exact⟨by rw[n.out];rfl,B⟩
theorem Mi:∀d,MK d
 | 0=>Nt 0 (λ_ h=>by omega)
 | d+1=>Nt (d+1) (λa h=>by cases h;exact Mi d)
theorem Qf(d:Nat)(type key:ByteArray)(a:Option Addr)(cap:Nat)(L:List (Cg d))(w:World)(u:CB w d a L)(p:BY type)(q:BY key) :
  Calls Tryz.prog 42 #[.agg #[.string type,.string key,.slice a L.length cap]] w λe w'=>e= .returned (.int .i64 (wA d type key L))/\Below w.heap.size w w':=by
 generalize r:w.alloc (Obj.cells #[.string type,.string key,.slice a L.length cap] 25)=W;have m:Below w.heap.size w W:=by rw[<-r];exact BW _ _
 have c:W.heap[w.heap.size]? = some (.cells #[.string type,.string key,.slice a L.length cap] 25 (0,0)):=by rw[<-r];exact Ap _ _
 have c0:W.cell? ⟨w.heap.size,0,none⟩=some (.string type):=by simp[World.cell?,c]
 have c1:W.cell? ⟨w.heap.size,1,none⟩=some (.string key):=by simp[World.cell?,c]
 have c2:W.cell? ⟨w.heap.size,2,none⟩=some (.slice a L.length cap):=by simp[World.cell?,c]
 have b:=Dv type W p;have y:=C6 u;have k:=C6 m;clear u c m
 go_enter Tryz.func42,Tryz.ntmps42
 go_wp2_with fail
 clear r;refine b.mono ?_;clear b;rintro e v ⟨rfl,g⟩;have c1:=BR g c1;have c2:=BR g c2;have h:Hid (Below w.heap.size w v):=k.out.trans (g.mono k.out.size);clear g k c0
 cases hn:Cb type with
 |false =>
  have n:Hid (wA d type key L=6):=by unfold wA;rw[hn];rfl
  clear hn
  go_wp2_with fail
  go_ret;exact⟨by rw[n.out];rfl,h.out⟩
 |true =>
  have b:=Dv key v q
  go_wp2_with fail
  refine b.mono ?_;clear b;rintro e x ⟨rfl,l⟩;have c2:=BR l c2;have i:Hid (Below w.heap.size w x):=h.out.trans (l.mono h.out.size);clear l h c1
  cases j:Cb key with
  |false =>
   have n:Hid (wA d type key L=6):=by unfold wA;rw[hn,j];rfl
   clear hn j
   go_wp2_with fail
   go_ret;exact⟨by rw[n.out];rfl,i.out⟩
  |true =>
   have n:Hid (wA d type key L=(wL d 1 0 L).1):=by unfold wA;rw[hn,j];rfl
   clear hn j;have b:=Mi d a cap L 1 0 x (y.out.kept i.out) (by omega) (by omega)
   go_wp2_with fail
   refine b.mono ?_;clear b;rintro e z ⟨rfl,o⟩;have s:Hid (Below w.heap.size w z):=i.out.trans (o.mono i.out.size);clear o
   go_wp2_with fail
   go_ret;exact⟨by rw[n.out];rfl,s.out⟩
def Kr (a:Option Addr) (n:Nat) (P:Nat->LPart) (name:ByteArray):Value :=
 if Ca n P name<0 then .pointer none else .pointer (a.map λb=>⟨b.block,b.off+(Ca n P name).toNat*4,none⟩)
theorem Ij{a:Option Addr}{n:Nat}{P:Nat->LPart}{name:ByteArray}(h:Ca n P name<0):Kr a n P name= .pointer none:=by unfold Kr;rw[Af h]
theorem Ir{b o n t:Nat}{P:Nat->LPart}{name:ByteArray}(h:Ca n P name=(t:Int)):Kr (some ⟨b,o,none⟩) n P name= .pointer (some ⟨b,o+t*4,none⟩):=by
 unfold Kr;rw[h,Ae (by omega),Ax];rfl
theorem IU(a:Option Addr)(n cap:Nat)(P:Nat->LPart)(name:ByteArray)(w:World)(g:EX w a n P) :
  Calls Tryz.prog 19 #[.slice a n cap,.string name] w λe w'=>e= .returned (Kr a n P name)/\Below w.heap.size w w':=by
 have hn:n<=9223372036854775807:=g.1;have p:=C6 g;clear g
 go_enter Tryz.func19,Tryz.ntmps19
 go_wp2_with fail
 go_loop [8] (λi => ∃k:Nat,k<=n/\i= .int .i64 k/\Hid (∀j,j<k->eqs (P j).name name=false)) (λi=>n - (intOf i).toNat)
 case atStart=>exact⟨0,Ai _,rfl,(λj d=>absurd d (Ak _))⟩
 case round =>
  obtain⟨k,hk,rfl,hb⟩:=hrel
  by_cases c:k<n
  ·obtain⟨b,o,ha,hc,-⟩:=p.out.2 k c
   subst ha;have m:(k:Int)<(n:Int):=by omega
   have q:(0:Int)<=(k:Int):=by omega
   cases he:((P k).name.toList==name.toList)
   ·have l:Hid (∀j,j<k+1->eqs (P j).name name=false):=λj d=>by
     rcases Nat.lt_succ_iff_lt_or_eq.1 d with h|h
     ·exact hb j h
     ·rw[h,<-CT];exact he
    go_wp2_with fail
    go_round
    case rel=>exact⟨k+1,by omega,by go_num,l⟩
    case measure=>simp[intOf];omega
   ·have hq:Hid (Kr (some ⟨b,o,none⟩) n P name= .pointer (some ⟨b,o+k*4,none⟩)):=Ir (DD c (by show eqs (P k).name name=true;rw[<-CT];exact he) hb.out)
    go_wp2_with fail
    go_ret;exact⟨by rw[hq.out];rfl,Aq _ _⟩
  ·have hq:Hid (Kr a n P name= .pointer none):=Ij (show Ds _ _<0 from Dq.2 (λj d=>hb.out j (by omega)))
   go_wp2_with fail
   go_ret;exact⟨by rw[hq.out];rfl,Aq _ _⟩
def MW (d:Nat):Prop := ∀(pa:Option Addr) (pn b:Nat) (P:Nat->LPart) (name:ByteArray) (a:Option Addr) (cap:Nat) (L:List (Cg d)) (w:World),EX w pa pn P->CB w d a L->L.length<=cap ->
  Calls Tryz.prog 43 #[.slice pa pn b,.string name,.slice a L.length cap] w λe w'=>e= .returned (.int .i64 (cL pn P d name L))/\Below w.heap.size w w'
theorem M4{n:Nat}{F:Nat->LField}{name:ByteArray}(h : ¬BX n F name<0):∃k:Nat,BX n F name=(k:Int)/\k<n:=by
 rcases CE n (λi=>eqs (F i).name name) with⟨h1,-⟩|⟨k,hk,h1,-⟩
 ·exact absurd (by unfold BX;rw[h1];decide) h
 ·exact⟨k,h1,hk⟩
theorem Ru{d:Nat}{L:List (Cg (d+1))}{k q:Nat}{name:ByteArray}(hk:k<=L.length)(hq:q<k)(h:eqs (B8 (BS L q)) name=true):((L.take k).map B8).any (λs=>eqs s name)=true:=by
 rw[BN];refine⟨B8 (BS L q),List.mem_map.2 ⟨_,?_,rfl⟩,h⟩;have a:q<(L.take k).length:=by rw[Bb];omega
 have e:BS L q=(L.take k)[q]:=by rw[CL (by omega),List.getElem_take]
 rw[e];exact AW a
theorem PF{d:Nat}{L:List (Cg (d+1))}{k:Nat}{name:ByteArray}(hk:k<=L.length)(h:∀q,q<k->eqs (B8 (BS L q)) name=false):((L.take k).map B8).any (λs=>eqs s name)=false:=by
 rw[List.any_eq_false];intro s hs;obtain⟨p,b,rfl⟩:=List.mem_map.1 hs;obtain⟨i,hi,rfl⟩:=List.mem_iff_getElem.1 b;have a:i<k/\i<L.length:=by rw[Bb]at hi;omega
 have e:(L.take k)[i]=BS L i:=by rw[CL a.2,List.getElem_take]
 rw[e,h i a.1];decide
theorem Q6(d:Nat)(ih:MW d):MW (d+1):=by
 intro pa pn Y P name a cap L w B hP hcap;have hn:L.length<=9223372036854775807:=hP.max;have hpn:pn<=9223372036854775807:=B.1;have s:=IU pa pn Y P name w B;have HP:=C6 hP;have HPA:=C6 B;have HE:Hid (cL pn P (d+1) name L=if Ca pn P name<0 then 5 else cR pn P (d+1) (P (Ca pn P name).toNat).nf (P (Ca pn P name).toNat).F [] L):=rfl
 by_cases c:Ca pn P name<0
 ·have z:Hid (cL pn P (d+1) name L=5):=by rw[HE.out,Af c];rfl
  rw[Ij c]at s;clear hP B c HE
  go_enter Tryz.func43,Tryz.ntmps43
  go_wp2_with fail
  refine s.mono ?_;clear s;rintro e w1 ⟨rfl,R⟩
  go_wp2_with fail
  go_ret;exact⟨by rw[z.out];rfl,R⟩
 obtain⟨x,hx,hxn⟩:∃k:Nat,Ca pn P name=(k:Int)/\k<pn:=by
  rcases CE pn (λi=>eqs (P i).name name) with⟨h1,-⟩|⟨k,hk,h1,-⟩
  ·exact absurd (by unfold Ca;rw[h1];decide) c
  ·exact⟨k,h1,hk⟩
 obtain⟨pb,po,hpa,-⟩:=B.2 x hxn;subst hpa;rw[Ir hx]at s;rw[Ae c,hx,Ax]at HE;clear hP B c hx
 go_enter Tryz.func43,Tryz.ntmps43
 go_wp2_with fail
 refine s.mono ?_;clear s;rintro e w1 ⟨rfl,R⟩;have HB1:=C6 R;clear R
 go_wp2_with fail
 go_loopw [22] (λi wr => ∃k:Nat,k<=L.length/\i= .int .i64 k/\Hid (cR pn P (d+1) (P x).nf (P x).F [] L=cR pn P (d+1) (P x).nf (P x).F ((L.take k).map B8) (L.drop k))/\Below w.heap.size w wr) (λi _=>L.length - (intOf i).toNat)
 case atStart=>exact⟨0,Ai _,rfl,rfl,HB1.out⟩
 case round =>
  obtain⟨k,hk,rfl,S,D⟩:=hrel
  by_cases aa:k<L.length
  ·obtain⟨b0,o0,hpe,c0,c1,c2,c3,s0,hF⟩:=(HPA.out.kept D).2 x hxn
   cases hpe;obtain⟨b,o,A,C,ha,q0,q1,q2,hC,t0,t1,hs⟩:=(HP.out.kept D).2 k aa;subst ha;have hlt':(k:Int)<(L.length:Int):=by omega
   have hk0:(0:Int)<=(k:Int):=by omega
   have hkc:(k:Int)<=(cap:Int):=by omega
   have HD:Hid (cR pn P (d+1) (P x).nf (P x).F ((L.take k).map B8) (L.drop k)=if cP pn P d (P x).nf (P x).F ((L.take k).map B8) (BS L k)≠0 then cP pn P d (P x).nf (P x).F ((L.take k).map B8) (BS L k) else cR pn P (d+1) (P x).nf (P x).F ((L.take (k+1)).map B8) (L.drop (k+1))):=by
    rw[Hm aa,IK,Hn aa,AH];rfl
   have E:Hid (cP pn P d (P x).nf (P x).F ((L.take k).map B8) (BS L k)=if BX (P x).nf (P x).F (BT (BS L k))<0 then 5 else if ((L.take k).map B8).any (λq=>eqs q (B8 (BS L k))) then 6 else
     if decide (((P x).F (BX (P x).nf (P x).F (BT (BS L k))).toNat).kind=1) == !(subs (BS L k)).isEmpty then 7 else if (subs (BS L k)).isEmpty then 0 else cL pn P d ((P x).F (BX (P x).nf (P x).F (BT (BS L k))).toNat).type (subs (BS L k))):=rfl
   have HGO:Hid (cP pn P d (P x).nf (P x).F ((L.take k).map B8) (BS L k)=0->cR pn P (d+1) (P x).nf (P x).F [] L=cR pn P (d+1) (P x).nf (P x).F ((L.take (k+1)).map B8) (L.drop (k+1))):=λh=>by rw[S.out,HD.out,Ae (λhh=>hh h)]
   have u:Hid (∀v,v≠0->cP pn P d (P x).nf (P x).F ((L.take k).map B8) (BS L k)=v->cL pn P (d+1) name L=v):=λv hv h=>by rw[HE.out,S.out,HD.out,Af (by rw[h];exact hv),h]
   have HA1:Hid (∀q,q<k->eqs (B8 (BS L q)) (B8 (BS L k))=true->((L.take k).map B8).any (λq=>eqs q (B8 (BS L k)))=true):=λq hq h=>Ru hk hq h;have HA2:Hid ((∀q,q<k->eqs (B8 (BS L q)) (B8 (BS L k))=false)->((L.take k).map B8).any (λq=>eqs q (B8 (BS L k)))=false):=λh=>PF hk h;generalize I:wr.alloc (Obj.cells #[.string (Di (BS L k)),.string (BT (BS L k)),.slice A (subs (BS L k)).length C] 72)=V;have m:Below wr.heap.size wr V:=by rw[<-I];exact BW _ _
   have v0:V.cell? ⟨wr.heap.size,0,none⟩=some (.string (Di (BS L k))):=by rw[<-I,Ac _ _ _ _ rfl];rfl
   have v1:V.cell? ⟨wr.heap.size,1,none⟩=some (.string (BT (BS L k))):=by rw[<-I,Ac _ _ _ _ rfl];rfl
   have v2:V.cell? ⟨wr.heap.size,2,none⟩=some (.slice A (subs (BS L k)).length C):=by rw[<-I,Ac _ _ _ _ rfl];rfl
   have z1:=BR m c1;have ab:=C6 (hF.kept m);have HSV:=C6 (hs.kept m);have ac:Hid (Below w.heap.size w V):=D.trans (m.mono D.size);have e0:=As v0;have e1:=As v1;have e2:=As v2;have e3:=As z1;have cA:∀U os,Calls Tryz.prog 45 #[.slice (P x).fa (P x).nf (P x).fcap,.string (BT (BS L k))] (grow (redrawn V U) os) λe w''=>e= .returned (.int .i64 (BX (P x).nf (P x).F (BT (BS L k))))/\∃r:Regrown,w''=grow (redrawn V r.d) r.os:=λU os=>AF (Gs _ _ _ _ _ _ (ab.out.kept (Av V U os)));clear hF hs m D HD S s0 c0 c2 c3;have HPK:Hid (CB w (d+1) (some ⟨b,o,none⟩) L):=HP;generalize BS L k=p at *;generalize hah:(L.take k).map B8=ah at *;have HAH:=C6 hah;clear hah
   go_wp2_with fail
   clear I q0 q1 q2;refine Ar (by kernel_rfl) (by kernel_rfl) ?_
   repeat (go_big_quiet_step (first|exact cA _ _))
   refine AK ?_;intro _ ad;obtain⟨⟨dq,osq⟩,J⟩:=ad;subst J;have W:=Av V dq osq;have K:Hid (Below w.heap.size w (grow (redrawn V dq) osq)):=ac.out.trans (W.mono ac.out.size);have v0:=e0 dq osq;have v1:=e1 dq osq;have v2:=e2 dq osq;have z1:=e3 dq osq;have HF2:=C6 (ab.out.kept W);have HS2:=C6 (HSV.out.kept W);clear W cA e0 e1 e2 e3 ab HSV ac;generalize grow (redrawn V dq) osq=w2 at *
   by_cases c:BX (P x).nf (P x).F (BT p)<0
   ·have z:=C6 (u.out 5 (by decide) (by rw[E.out,Af c]))
    go_wp2_with fail
    go_ret;exact⟨by rw[z.out];rfl,K.out⟩
   rw[Ae c]at E;obtain⟨y,hy,hyn⟩:=M4 c;rw[hy]at E ⊢;rw[Ax]at E;have hy0 : ¬(y:Int)<0:=by omega
   clear c hy;generalize wr.heap.size=bp at *
   go_wp2_with fail
   go_loopw [41] (λi wr => ∃q:Nat,q<=k/\i= .int .i64 q/\Hid (∀j,j<q->eqs (B8 (BS L j)) (B8 p)=false)/\Below w2.heap.size w2 wr) (λi _=>k - (intOf i).toNat)
   case atStart=>exact⟨0,Ai _,rfl,(λj hj=>absurd hj (Ak _)),Aq _ _⟩
   case round =>
    obtain⟨q,hq,rfl,HQ,l⟩:=hrel;have HBQ:Hid (Below w.heap.size w wr):=K.out.trans (l.mono K.out.size)
    by_cases hqk:q<k
    ·obtain⟨b9,o9,A9,C9,ha9,r0,r1,r2,-⟩:=(HPK.out.kept HBQ.out).2 q (by omega)
     cases ha9;have hqk':(q:Int)<(k:Int):=by omega
     have hq0:(0:Int)<=(q:Int):=by omega
     have u0:=BR l v0;have u1:=BR l v1;have u2:=BR l v2;generalize I:wr.alloc (Obj.cells #[.string (Di (BS L q)),.string (BT (BS L q)),.slice A9 (subs (BS L q)).length C9] 72)=H;have m:Below wr.heap.size wr H:=by rw[<-I];exact BW _ _
     have m0:H.cell? ⟨wr.heap.size,0,none⟩=some (.string (Di (BS L q))):=by rw[<-I,Ac _ _ _ _ rfl];rfl
     have m1:H.cell? ⟨wr.heap.size,1,none⟩=some (.string (BT (BS L q))):=by rw[<-I,Ac _ _ _ _ rfl];rfl
     have m2:H.cell? ⟨wr.heap.size,2,none⟩=some (.slice A9 (subs (BS L q)).length C9):=by rw[<-I,Ac _ _ _ _ rfl];rfl
     have f0:=As m0;have f1:=As m1;have f2:=As m2;have g0:=As (BR m u0);have g1:=As (BR m u1);have g2:=As (BR m u2);have cA:∀U os,Calls Tryz.prog 46 #[.agg #[.string (Di (BS L q)),.string (BT (BS L q)),.slice A9 (subs (BS L q)).length C9]] (grow (redrawn H U) os) λe w''=>e= .returned (.string (B8 (BS L q)))/\∃r:Regrown,w''=grow (redrawn H r.d) r.os:=λU os=>AF (G5 _ _ _ _ _ _);have cB:∀U os,Calls Tryz.prog 46 #[.agg #[.string (Di p),.string (BT p),.slice A (subs p).length C]] (grow (redrawn H U) os) λe w''=>e= .returned (.string (B8 p))/\∃r:Regrown,w''=grow (redrawn H r.d) r.os:=λU os=>AF (G5 _ _ _ _ _ _);have M:Hid (Below w2.heap.size w2 H):=l.trans (m.mono l.size);have HEQ:=C6 (CT (B8 (BS L q)) (B8 p));clear m l u0 u1 u2 m0 m1 m2
     go_wp2_with fail
     clear I r0 r1 r2;refine Ar (by kernel_rfl) (by kernel_rfl) ?_
     repeat (go_big_quiet_step (first|exact cA _ _|exact cB _ _))
     refine AK ?_;intro _ ad;obtain⟨⟨dq9,N⟩,J⟩:=ad;subst J;have hB9:=Av H dq9 N;have HB9:Hid (Below w2.heap.size w2 (grow (redrawn H dq9) N)):=M.out.trans (hB9.mono M.out.size);clear hB9 cA cB f0 f1 f2 g0 g1 g2 M;generalize grow (redrawn H dq9) N=w9 at *
     cases he:((B8 (BS L q)).toList==(B8 p).toList) with
     |true =>
      have z:=C6 (u.out 6 (by decide) (by rw[E.out,Af (HA1.out q hqk (by rw[<-HEQ.out];exact he))]))
      go_wp2_with fail
      go_ret;exact⟨by rw[z.out];rfl,K.out.trans (HB9.out.mono K.out.size)⟩
     |false =>
      have HQ2:Hid (∀j,j<q+1->eqs (B8 (BS L j)) (B8 p)=false):=λj hj=>by
       rcases Nat.lt_succ_iff_lt_or_eq.1 hj with h|h
       ·exact HQ.out j h
       ·rw[h,<-HEQ.out];exact he
      go_wp2_with fail
      go_roundw
      case rel=>exact⟨q+1,by omega,by go_num,HQ2,HB9.out⟩
      case measure=>simp[intOf];omega
    ·have hqn:q=k:=by omega
     subst hqn;rw[Ae (by rw[HA2.out HQ.out];decide)]at E;have v0:=BR l v0;have v1:=BR l v1;have v2:=BR l v2;have z1:=BR l z1;have HF3:=C6 (HF2.out.kept l);have HS3:=C6 (HS2.out.kept l);obtain⟨fb,fo,hfa,f0,f1,f2,hfs0,hfs2,hfw⟩:=HF3.out.2 y hyn;rw[hfa]at z1;have hyn':(y:Int)<((P x).nf:Int):=by omega
     have hy00:(0:Int)<=(y:Int):=by omega
     clear l HA1 HA2 HQ hfa;generalize hT:wr.alloc (Obj.cells #[.string ((P x).F y).name,.int .i64 ((P x).F y).kind,.string ((P x).F y).type] 113)=T;have X:Below wr.heap.size wr T:=by rw[<-hT];exact BW _ _
     have n1:T.cell? ⟨wr.heap.size,1,none⟩=some (.int .i64 ((P x).F y).kind):=by rw[<-hT,Ac _ _ _ _ rfl];rfl
     have n2:T.cell? ⟨wr.heap.size,2,none⟩=some (.string ((P x).F y).type):=by rw[<-hT,Ac _ _ _ _ rfl];rfl
     have v2T:=BR X v2;have G:Hid (Below w.heap.size w T):=HBQ.out.trans (X.mono HBQ.out.size);have HST:=C6 (HS3.out.kept X);clear X;generalize hkd:((P x).F y).kind=kd at *;generalize hty:((P x).F y).type=ty at *
     by_cases Z:(subs p).length=0
     ·have n:(subs p).isEmpty=true:=by rw[BE];exact AC Z
      rw[n]at E;have hz' : ¬0<((subs p).length:Int):=by omega
      have hzn : ¬0<(subs p).length:=by omega
      have hze:(subs p).length=0:=Z;have hzb:(((subs p).length:Int)==0)=true:=by rw[beq_iff_eq];omega
      by_cases g:kd=1
      ·have O:(kd==1)=true:=by simpa using g
       have Q:(kd != 1)=false:=by simpa using g
       have z:=C6 (HGO.out (by rw[E.out,g];rfl));clear Z g n
       go_wp2_with fail
       go_roundw
       case rel=>exact⟨q+1,by omega,by go_num,z,G.out⟩
       case measure=>simp[intOf];omega
      ·have O:(kd==1)=false:=by simpa using g
       have Q:(kd != 1)=true:=by simpa using g
       have z:=C6 (u.out 7 (by decide) (by rw[E.out,AY g];rfl));clear Z g n
       go_wp2_with fail
       go_ret;exact⟨by rw[z.out];rfl,G.out⟩
     ·have n:(subs p).isEmpty=false:=by
       cases h:(subs p).isEmpty with
       |false=>rfl
       |true=>exact absurd (by rw[List.isEmpty_iff.1 h];rfl) Z
      rw[n]at E;have hz':0<((subs p).length:Int):=by omega
      have hzn:0<(subs p).length:=by omega
      have hze : ¬(subs p).length=0:=Z;have hzb:(((subs p).length:Int)==0)=false:=by rw[Bc];omega
      by_cases g:kd=1
      ·have O:(kd==1)=true:=by simpa using g
       have Q:(kd != 1)=false:=by simpa using g
       have z:=C6 (u.out 7 (by decide) (by rw[E.out,g];rfl));clear Z g n
       go_wp2_with fail
       go_ret;exact⟨by rw[z.out];rfl,G.out⟩
      ·have O:(kd==1)=false:=by simpa using g
       have Q:(kd != 1)=true:=by simpa using g
       have HC2:Hid (cP pn P d (P x).nf (P x).F ah p=cL pn P d ty (subs p)):=by rw[E.out,AY g];rfl
       have s:=ih (some ⟨pb,po,none⟩) pn Y P ty A C (subs p) T (HPA.out.kept G.out) HST.out hC;clear Z g n E;generalize cL pn P d ty (subs p)=r at *
       go_wp2_with fail
       refine s.mono ?_;clear s;rintro e w5 ⟨rfl,hw5⟩;have HB5:Hid (Below w.heap.size w w5):=G.out.trans (hw5.mono G.out.size);clear hw5
       by_cases hr:r=0
       ·have hr':(r != 0)=false:=by simpa using hr
        have z:=C6 (HGO.out (by rw[HC2.out];exact hr));clear hr
        go_wp2_with fail
        go_roundw
        case rel=>exact⟨q+1,by omega,by go_num,z,HB5.out⟩
        case measure=>simp[intOf];omega
       ·have hr':(r != 0)=true:=by simpa using hr
        have z:=C6 (u.out r hr HC2.out);clear hr
        go_wp2_with fail
        go_ret;exact⟨by rw[z.out];rfl,HB5.out⟩
  ·have hkn:k=L.length:=by omega
   have HR2:Hid (cL pn P (d+1) name L=0):=by
    rw[HE.out,S.out,hkn,List.drop_length,Ti];rfl
   clear hkn
   go_wp2_with fail
   go_ret;exact⟨by rw[HR2.out];rfl,D⟩
theorem Ro:MW 0:=by
 intro pa pn h P name a cap L w d q j;have c:=IU pa pn h P name w d;have l:Hid (cL pn P 0 name L=if Ca pn P name<0 then 5 else 0):=rfl
 obtain rfl:=MN L
 by_cases b:Ca pn P name<0
 ·have m:Hid (cL pn P 0 name []=5):=by rw[l.out,Af b];rfl
  rw[Ij b]at c;clear q d b l
  go_enter Tryz.func43,Tryz.ntmps43
  go_wp2_with fail
  refine c.mono ?_;clear c;rintro e r ⟨rfl,g⟩
  go_wp2_with fail
  go_ret;exact⟨by rw[m.out];rfl,g⟩
 obtain⟨x,hx,n⟩:∃k:Nat,Ca pn P name=(k:Int)/\k<pn:=by
  rcases CE pn (λi=>eqs (P i).name name) with⟨h1,-⟩|⟨k,hk,h1,-⟩
  ·exact absurd (by unfold Ca;rw[h1];decide) b
  ·exact⟨k,h1,hk⟩
 obtain⟨pb,s,o,-⟩:=d.2 x n;subst o;have m:Hid (cL pn P 0 name []=0):=by rw[l.out,Ae b];rfl
 rw[Ir hx]at c;clear q d b hx l j
 go_enter Tryz.func43,Tryz.ntmps43
 go_wp2_with fail
 refine c.mono ?_;clear c;rintro e r ⟨rfl,g⟩;have p:=C6 g;clear g
 go_wp2_with fail
 go_loopw [22] (λi wr=>i= .int .i64 0/\wr=r) (λ_ _=>0)
 case atStart=>exact⟨rfl,rfl⟩
 case round =>
  obtain⟨rfl,rfl⟩:=hrel
  go_wp2_with fail
  go_ret;exact⟨by rw[m.out];rfl,p.out⟩
theorem Np:∀d,MW d
 | 0=>Ro
 | d+1=>Q6 d (Np d)
theorem Pu(pa:Option Addr)(pn i:Nat)(P:Nat->LPart)(d:Nat)(type key:ByteArray)(a:Option Addr)(cap:Nat)(L:List (Cg d))(w:World)(m:EX w pa pn P)(q:CB w d a L)(n:L.length<=cap)(s:BY type)(u:BY key) :
  Calls Tryz.prog 18 #[.slice pa pn i,.agg #[.string type,.string key,.slice a L.length cap]] w λe w'=>e= .returned (.int .i64 (cA pn P d type key L))/\Below w.heap.size w w':=by
 generalize v:w.alloc (Obj.cells #[.string type,.string key,.slice a L.length cap] 25)=W;have j:Below w.heap.size w W:=by rw[<-v];exact BW _ _
 have g:W.heap[w.heap.size]? = some (.cells #[.string type,.string key,.slice a L.length cap] 25 (0,0)):=by rw[<-v];exact Ap _ _
 have c0:W.cell? ⟨w.heap.size,0,none⟩=some (.string type):=by simp[World.cell?,g]
 have c1:W.cell? ⟨w.heap.size,1,none⟩=some (.string key):=by simp[World.cell?,g]
 have c2:W.cell? ⟨w.heap.size,2,none⟩=some (.slice a L.length cap):=by simp[World.cell?,g]
 have b:=Qf d type key a cap L W (q.kept j) s u;have C:=C6 q;have x:=C6 m;have k:=C6 j;have p:Hid (cA pn P d type key L=if wA d type key L≠0 then wA d type key L else cL pn P d type L):=rfl
 clear q g j m;generalize wA d type key L=r at *
 go_enter Tryz.func18,Tryz.ntmps18
 go_wp2_with fail
 clear v;refine b.mono ?_;clear b;rintro e B ⟨rfl,h⟩;have c0:=BR h c0;have c2:=BR h c2;have c:Hid (Below w.heap.size w B):=k.out.trans (h.mono k.out.size);clear h k c1
 by_cases l:r=0
 ·have y:(r != 0)=false:=by simpa using l
  have z:Hid (cA pn P d type key L=cL pn P d type L):=by rw[p.out,Ae (by simp[l])];rfl
  have b:=Np d pa pn i P type a cap L B (x.out.kept c.out) (C.out.kept c.out) n;clear l p
  go_wp2_with fail
  refine b.mono ?_;clear b;rintro e D ⟨rfl,o⟩;have A:Hid (Below w.heap.size w D):=c.out.trans (o.mono c.out.size);clear o
  go_wp2_with fail
  go_ret;exact⟨by rw[z.out];rfl,A.out⟩
 ·have y:(r != 0)=true:=by simpa using l
  have z:Hid (cA pn P d type key L=r):=by rw[p.out,Af l];rfl
  clear l p
  go_wp2_with fail
  go_ret;exact⟨by rw[z.out];rfl,c.out⟩
end Go.Proofs.YtjjggefmmeminabGreat
