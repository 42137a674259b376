import Derived.Test.YtjjggefmmeminabGreatChSee
import Derived.Test.YtjjggefmmeminabGreatJRe
set_option maxRecDepth 100000
set_option maxHeartbeats 4000000
namespace Go.Proofs.YtjjggefmmeminabGreat
open Go.RowKit Go.Sort
def pl (n:Nat) (K:Nat->ByteArray) (s:ByteArray):Int:=Ds n (λj=>eqs (K j) s)
theorem FT(a:Option Addr)(n cap:Nat)(K:Nat->ByteArray)(name:ByteArray)(w:World)(l:CF w a n K) :
  Calls Tryz.prog 74 #[.slice a n cap,.string name] w λe w'=>e= .returned (.int .i64 (pl n K name))/\Below w.heap.size w w':=by
 have hn:n<=9223372036854775807:=l.1;have q:Hid (CF w a n K):=l;clear l
 go_enter Tryz.func74,Tryz.ntmps74
 go_wp2_with fail
 go_loopw [9] (λi wr => ∃k:Nat,k<=n/\i= .int .i64 k/\Hid (∀j,j<k->eqs (K j) name=false)/\Below w.heap.size w wr) (λi _=>n - (intOf i).toNat)
 case atStart=>exact⟨0,Ai _,rfl,(λj d=>absurd d (Ak _)),Aq _ _⟩
 case round =>
  obtain⟨k,hk,rfl,hb,g⟩:=hrel
  by_cases c:k<n
  ·obtain⟨b,o,ha,r,-⟩:=(q.out.kept g).2 k c
   subst ha;have p:(k:Int)<(n:Int):=by omega
   have s:(0:Int)<=(k:Int):=by omega
   cases he:((K k).toList==name.toList)
   ·have m:Hid (∀j,j<k+1->eqs (K j) name=false):=λj d=>by
     rcases Nat.lt_succ_iff_lt_or_eq.1 d with h|h
     ·exact hb j h
     ·rw[h,<-CT];exact he
    go_wp2_with fail
    go_roundw
    case rel=>exact⟨k+1,by omega,by go_num,m,g⟩
    case measure=>simp[intOf];omega
   ·have hq:Hid (pl n K name=(k:Int)):=DD c (by show eqs (K k) name=true;rw[<-CT];exact he) hb.out
    go_wp2_with fail
    go_ret;exact⟨by rw[hq.out];rfl,g⟩
  ·have hq:Hid (pl n K name = -1):=Em (λj d=>hb.out j (by omega))
   go_wp2_with fail
   go_ret;exact⟨by rw[hq.out];rfl,g⟩
structure RS (w:World) (base bs n:Nat) (fv:Value) (rows:Nat->Value) (len:Nat->Nat) (txt:Nat->Nat->ByteArray):Prop where
 hbs:base<=bs
 box:w.heap[bs]? = some (.cells #[rows 0,rows 1,fv] 107 (0,0))
 frow:B9 w base 65 1 fv n (λi=>rows (2+i))
 texts:∀k,k<n+2->B9 w base 9 1 (rows k) (len k) (B3 (txt k))
 apart:∀j k,j<n+2->k<n+2->j≠k->∀b,(rows j).ownBlock=some b->(rows k).ownBlock≠some b
 lens:∀k,k<n+2->len k<=maxLen
 good:∀k,k<n+2->∀j,j<len k->BY (txt k j)
 nmax:n<=maxLen
theorem RS.kept{w w':World}{base b n:Nat}{fv:Value}{a:Nat->Value}{len:Nat->Nat}{txt:Nat->Nat->ByteArray}(h:RS w base b n fv a len txt)(hb:Below w.heap.size w w'):RS w' base b n fv a len txt :=
 ⟨h.hbs,(hb.block b (Ag h.box)).trans h.box,h.frow.kept hb,λk hk=>(h.texts k hk).kept hb,h.apart,h.lens,h.good,h.nmax⟩
theorem RS.keys{w:World}{base c n:Nat}{fv:Value}{b:Nat->Value}{len:Nat->Nat}{txt:Nat->Nat->ByteArray}(h:RS w base c n fv b len txt){k:Nat}(hk:k<n+2):∃a cap,b k= .slice a (len k) cap/\len k<=cap/\CF w a (len k) (txt k) :=
 (h.texts k hk).keysAt (h.lens k hk) (h.good k hk)
def DP (txt:Nat->Nat->ByteArray) (k j:Nat) (s:ByteArray):Nat->Nat->ByteArray:=λa b=>if a=k/\b=j then s else txt a b
theorem RS.setText{w:World}{base d n:Nat}{fv:Value}{a:Nat->Value}{len:Nat->Nat}{txt:Nat->Nat->ByteArray}(h:RS w base d n fv a len txt){k j g cap:Nat}(hk:k<n+2)(hv:a k= .slice (some ⟨g,0,none⟩) (len k) cap){s:ByteArray}(hs:BY s) :
  RS (w.setCell ⟨g,j,none⟩ (.string s)) base d n fv a len (DP txt k j s):=by
 have b:(a k).ownBlock=some g:=by rw[hv];rfl
 have c:=h.texts k hk;have n1:fv.ownBlock≠some g:=c.ne h.frow (by decide) b;have n2:d≠g:=c.box_ne b h.box (by decide);refine⟨h.hbs,(Al _ _ _ _ n2).trans h.box,h.frow.set_other (p:=⟨g,j,none⟩) n1 _,λi hi=>?_,h.apart,h.lens,λi hi q hq=>?_,h.nmax⟩
 ·by_cases e:i=k
  ·subst e
   rw[hv]at c ⊢;refine(c.set j (.string s)).congr λq hq=>?_;unfold B3 DP
   by_cases e2:q=j
   ·simp[e2]
   ·simp[e2]
  ·refine((h.texts i hi).set_other (p:=⟨g,j,none⟩) (h.apart k i hk hi (BG e) g b) _).congr λq hq=>?_
   unfold B3 DP;simp[e]
 ·unfold DP
  by_cases e:i=k/\q=j
  ·rw[Af e];exact hs
  ·rw[Ae e];exact h.good i hi q hq
def Qh (len:Nat->Nat) (txt:Nat->Nat->ByteArray) (t:Nat) (c:PChange):Int × (Nat->Nat->ByteArray) :=
 if pl (len (2+t)) (txt (2+t)) c.field<0\/c.field.size=0 then (5,txt)
 else if c.kind=3 then (0,DP txt (2+t) (pl (len (2+t)) (txt (2+t)) c.field).toNat ⟨#[]⟩)
 else if !Cb c.to||decide (0<=pl (len (2+t)) (txt (2+t)) c.to) then (6,txt) else (0,DP txt (2+t) (pl (len (2+t)) (txt (2+t)) c.field).toNat c.to)
def GW (n:Nat) (len:Nat->Nat) (txt:Nat->Nat->ByteArray) (c:PChange):Int × (Nat->Nat->ByteArray) :=
 if c.kind≠1/\c.kind≠2/\c.kind≠3 then (1,txt)
 else if pl n (txt 1) c.type<0 then (5,txt)
 else if c.kind=1 then (if !Cb c.to||decide (0<=pl n (txt 1) c.to) then (6,txt) else (0,DP txt 1 (pl n (txt 1) c.type).toNat c.to))
 else Qh len txt (pl n (txt 1) c.type).toNat c
theorem Gn{n:Nat}{K:Nat->ByteArray}{s:ByteArray}(h : ¬pl n K s<0):(pl n K s).toNat<n/\K (pl n K s).toNat=s/\pl n K s=((pl n K s).toNat:Int):=by
 unfold pl at *;rcases CE n (λi=>eqs (K i) s) with⟨e,_⟩|⟨k,hk,e,h1,_⟩
 ·rw[e]at h;omega
 ·rw[e];exact⟨by simpa using hk,by simpa using Ch.1 h1,by simp⟩
theorem Tn{n:Nat}{len:Nat->Nat}{txt:Nat->Nat->ByteArray}{c:PChange}(h1:c.kind≠1)(h2:c.kind≠2)(h3:c.kind≠3):GW n len txt c=(1,txt):=by unfold GW;rw[Af ⟨h1,h2,h3⟩]
theorem KF{n:Nat}{len:Nat->Nat}{txt:Nat->Nat->ByteArray}{c:PChange}(h:c.kind=1\/c.kind=2\/c.kind=3)(h2:pl n (txt 1) c.type<0):GW n len txt c=(5,txt):=by unfold GW;rw[Ae (by omega),Af h2]
theorem SV{n:Nat}{len:Nat->Nat}{txt:Nat->Nat->ByteArray}{c:PChange}(h:c.kind=1)(h2 : ¬pl n (txt 1) c.type<0):GW n len txt c=if !Cb c.to||decide (0<=pl n (txt 1) c.to) then (6,txt) else (0,DP txt 1 (pl n (txt 1) c.type).toNat c.to):=by unfold GW;rw[Ae (by omega),Ae h2,Af h]
theorem LI{n:Nat}{len:Nat->Nat}{txt:Nat->Nat->ByteArray}{c:PChange}(h:c.kind=2\/c.kind=3)(h2 : ¬pl n (txt 1) c.type<0):GW n len txt c=Qh len txt (pl n (txt 1) c.type).toNat c:=by unfold GW;rw[Ae (by omega),Ae h2,Ae (by omega)]
theorem UB(base F n:Nat)(fv:Value)(l:Nat->Value)(len:Nat->Nat)(txt:Nat->Nat->ByteArray)(c:PChange)(w:World)(hS:RS w base F n fv l len txt)(hl1:len 1=n)(hto:BY c.to)(ab:base<=w.heap.size) :
  Calls Tryz.prog 73 #[.pointer (some ⟨F,0,none⟩),Hq c] w λe w'=>e= .returned (.int .i64 (GW n len txt c).1)/\RS w' base F n fv l len (GW n len txt c).2/\Below base w w':=by
 have hn:n<=9223372036854775807:=hS.nmax;have HS:Hid (RS w base F n fv l len txt):=hS;clear hS;unfold Hq;generalize hW:w.alloc (Obj.cells #[.int .i64 c.kind,.string c.type,.string c.field,.string c.to] 160)=W;have hB:Below w.heap.size w W:=by rw[<-hW];exact BW _ _
 have c0:W.cell? ⟨w.heap.size,0,none⟩=some (.int .i64 c.kind):=by rw[<-hW,Ac _ _ _ _ rfl];rfl
 have c1:W.cell? ⟨w.heap.size,1,none⟩=some (.string c.type):=by rw[<-hW,Ac _ _ _ _ rfl];rfl
 have c2:W.cell? ⟨w.heap.size,2,none⟩=some (.string c.field):=by rw[<-hW,Ac _ _ _ _ rfl];rfl
 have c3:W.cell? ⟨w.heap.size,3,none⟩=some (.string c.to):=by rw[<-hW,Ac _ _ _ _ rfl];rfl
 have J:Hid (RS W base F n fv l len txt):=HS.out.kept hB;have Q:Hid (Below base w W):=hB.mono ab;have K:base<=W.heap.size:=Am ab hB.size;clear HS hB
 by_cases D:c.kind≠1/\c.kind≠2/\c.kind≠3
 ·have b:Hid (GW n len txt c=(1,txt)):=Tn D.1 D.2.1 D.2.2
  have e1:(c.kind != 1)=true:=by simpa using D.1
  have e2:(c.kind != 2)=true:=by simpa using D.2.1
  have e3:(c.kind != 3)=true:=by simpa using D.2.2
  clear D
  go_enter Tryz.func73,Tryz.ntmps73
  go_wp2_with fail
  go_ret;exact⟨by rw[b.out];rfl,by rw[b.out];exact J.out,Q.out⟩
 obtain⟨ka,kc,hk1,hkc,hKA⟩:=J.out.keys (k:=1) (by omega);rw[hl1]at hk1 hkc hKA;have b1:W.cell? ⟨F,1,none⟩=some (.slice ka n kc):=by simp[World.cell?,J.out.box,hk1]
 have HK1:Hid (l 1= .slice ka n kc):=hk1;have Y:Hid (CF W ka n (txt 1)):=hKA;have cP:∀d os,Calls Tryz.prog 74 #[.slice ka n kc,.string c.type] (grow (redrawn W d) os) λe w''=>e= .returned (.int .i64 (pl n (txt 1) c.type))/\∃p:Regrown,w''=grow (redrawn W p.d) p.os:=λd os=>AF (FT _ _ _ (txt 1) _ _ (hKA.kept (Av W d os)));have R:=As b1;have r2:=As c1;clear hk1 hKA;rcases (show c.kind=1\/c.kind=2\/c.kind=3 by omega) with hk|hk|hk
 ·rw[hk]at c0 hW ⊢
  go_enter Tryz.func73,Tryz.ntmps73
  go_wp2_with fail
  clear hW;generalize w.heap.size=bc at *;refine Ar (by kernel_rfl) (by kernel_rfl) ?_
  repeat (go_big_quiet_step (first|exact cP _ _))
  refine AK ?_;intro _ r;obtain⟨⟨o,osq⟩,m⟩:=r;subst m;have q:=Av W o osq;have s:Hid (RS (grow (redrawn W o) osq) base F n fv l len txt):=J.out.kept q;have B:Hid (Below base w (grow (redrawn W o) osq)):=Q.out.trans (q.mono K);have E:base<=(grow (redrawn W o) osq).heap.size:=Am K q.size;have I:Hid (CF (grow (redrawn W o) osq) ka n (txt 1)):=Y.out.kept q;have d0:=BR q c0;have S:=BR q b1;have d2:=BR q c2;have d3:=BR q c3;clear q R r2 cP c0 c1 c2 c3 b1 K J Q Y;generalize grow (redrawn W o) osq=u at *
  by_cases X:pl n (txt 1) c.type<0
  ·have b:Hid (GW n len txt c=(5,txt)):=KF (by omega) X
   clear hk
   go_wp2_with fail
   go_ret;exact⟨by rw[b.out];rfl,by rw[b.out];exact s.out,B.out⟩
  have b:Hid (GW n len txt c=if !Cb c.to||decide (0<=pl n (txt 1) c.to) then (6,txt) else (0,DP txt 1 (pl n (txt 1) c.type).toNat c.to)):=SV hk X
  obtain⟨t1,-,t3⟩:=Gn X;generalize htn:(pl n (txt 1) c.type).toNat=t at *;rw[t3];clear hk X t3 htn;have ht':(t:Int)<(n:Int):=by omega
  have ht0:(0:Int)<=(t:Int):=by omega
  have N:∀d os,Calls Tryz.prog 75 #[.string c.to] (grow (redrawn u d) os) λe w''=>e= .returned (.bool (Cb c.to))/\∃p:Regrown,w''=grow (redrawn u p.d) p.os:=λd os=>AF (Dv _ _ hto);have Z:∀d os,Calls Tryz.prog 74 #[.slice ka n kc,.string c.to] (grow (redrawn u d) os) λe w''=>e= .returned (.int .i64 (pl n (txt 1) c.to))/\∃p:Regrown,w''=grow (redrawn u p.d) p.os:=λd os=>AF (FT _ _ _ (txt 1) _ _ (I.out.kept (Av u d os)));have R:=As S;have r3:=As d3;cases L:Cb c.to
  ·have a:Hid (GW n len txt c=(6,txt)):=by unfold Hid;rw[b.out];simp[L]
   rw[L]at N
   go_wp2_with fail
   refine Ar (by kernel_rfl) (by kernel_rfl) ?_
   repeat (go_big_quiet_step (first|exact N _ _|exact Z _ _))
   refine AK ?_;intro _ r;obtain⟨⟨o,osq⟩,m⟩:=r;subst m;have i:=Av u o osq;have v:Hid (RS (grow (redrawn u o) osq) base F n fv l len txt):=s.out.kept i;have x:Hid (Below base w (grow (redrawn u o) osq)):=B.out.trans (i.mono E);clear i N Z R r3
   go_wp2_with fail
   go_ret;exact⟨by rw[a.out];rfl,by rw[a.out];exact v.out,x.out⟩
  rw[L]at N
  by_cases hq:0<=pl n (txt 1) c.to
  ·have a:Hid (GW n len txt c=(6,txt)):=by unfold Hid;rw[b.out];simp[hq]
   go_wp2_with fail
   refine Ar (by kernel_rfl) (by kernel_rfl) ?_
   repeat (go_big_quiet_step (first|exact N _ _|exact Z _ _))
   refine AK ?_;intro _ r;obtain⟨⟨o,osq⟩,m⟩:=r;subst m;have i:=Av u o osq;have v:Hid (RS (grow (redrawn u o) osq) base F n fv l len txt):=s.out.kept i;have x:Hid (Below base w (grow (redrawn u o) osq)):=B.out.trans (i.mono E);clear i N Z R r3
   go_wp2_with fail
   go_ret;exact⟨by rw[a.out];rfl,by rw[a.out];exact v.out,x.out⟩
  have a:Hid (GW n len txt c=(0,DP txt 1 t c.to)):=by unfold Hid;rw[b.out];simp[L,hq]
  go_wp2_with fail
  refine Ar (by kernel_rfl) (by kernel_rfl) ?_
  repeat (go_big_quiet_step (first|exact N _ _|exact Z _ _))
  refine AK ?_;intro _ r;obtain⟨⟨o,osq⟩,m⟩:=r;subst m;have i:=Av u o osq;have v:Hid (RS (grow (redrawn u o) osq) base F n fv l len txt):=s.out.kept i;have x:Hid (Below base w (grow (redrawn u o) osq)):=B.out.trans (i.mono E);have f1:=BR i S;have f3:=BR i d3;clear i N Z R r3 d0 S d2 d3 s B I;generalize grow (redrawn u o) osq=G at *;have O:=v.out.texts 1 (by omega);rcases O.shape with⟨-,h0⟩|⟨g,cap,hv,hg,-,-⟩
  ·rw[hl1]at h0;omega
  have hv2:(Value.slice ka n kc)= .slice (some ⟨g,0,none⟩) n cap:=by rw[<-HK1.out,hv,hl1]
  cases hv2;rw[hv]at O;have k0:=O.cell (j:=t) (by rw[hl1];omega);have kz:=O.free t;unfold B3 at k0;have H:Hid (RS (G.setCell ⟨g,t,none⟩ (.string c.to)) base F n fv l len (DP txt 1 t c.to)):=v.out.setText (by omega) hv hto;have M:Hid (Below base w (G.setCell ⟨g,t,none⟩ (.string c.to))):=x.out.setCell hg _;clear O hv
  go_wp2_with fail
  go_region
  all_goals (
   go_wp2_with fail
   go_ret;exact⟨by rw[a.out];rfl,by rw[a.out];exact H.out.kept ((Aq _ _).drew),M.out.drew⟩)
 ·rw[hk]at c0 hW ⊢
  go_enter Tryz.func73,Tryz.ntmps73
  go_wp2_with fail
  clear hW;generalize w.heap.size=bc at *;refine Ar (by kernel_rfl) (by kernel_rfl) ?_
  repeat (go_big_quiet_step (first|exact cP _ _))
  refine AK ?_;intro _ r;obtain⟨⟨o,osq⟩,m⟩:=r;subst m;have q:=Av W o osq;have s:Hid (RS (grow (redrawn W o) osq) base F n fv l len txt):=J.out.kept q;have B:Hid (Below base w (grow (redrawn W o) osq)):=Q.out.trans (q.mono K);have E:base<=(grow (redrawn W o) osq).heap.size:=Am K q.size;have I:Hid (CF (grow (redrawn W o) osq) ka n (txt 1)):=Y.out.kept q;have d0:=BR q c0;have S:=BR q b1;have d2:=BR q c2;have d3:=BR q c3;clear q R r2 cP c0 c1 c2 c3 b1 K J Q Y;generalize grow (redrawn W o) osq=u at *
  by_cases X:pl n (txt 1) c.type<0
  ·have b:Hid (GW n len txt c=(5,txt)):=KF (by omega) X
   clear hk
   go_wp2_with fail
   go_ret;exact⟨by rw[b.out];rfl,by rw[b.out];exact s.out,B.out⟩
  have b:Hid (GW n len txt c=Qh len txt (pl n (txt 1) c.type).toNat c):=LI (by omega) X;obtain⟨t1,-,t3⟩:=Gn X;generalize htn:(pl n (txt 1) c.type).toNat=t at *;rw[t3];have HKD:Hid (c.kind=2):=hk;clear hk X t3 htn I HK1 S;have ht':(t:Int)<(n:Int):=by omega
  have ht0:(0:Int)<=(t:Int):=by omega
  have T:=s.out.frow;rcases T.shape with⟨-,h0⟩|⟨gf,y,hfv,-,-,-⟩
  ·omega
  subst hfv;obtain⟨fa,fc,U,hfc,V⟩:=s.out.keys (k:=2+t) (by omega);have S:u.cell? ⟨F,2,none⟩=some (.slice (some ⟨gf,0,none⟩) n y):=by simp[World.cell?,s.out.box]
  have d4:=T.cell (j:=t) (by omega);rw[U]at d4;have hlen:len (2+t)<=9223372036854775807:=s.out.lens (2+t) (by omega);have HRT:Hid (l (2+t)= .slice fa (len (2+t)) fc):=U;have HKF:Hid (CF u fa (len (2+t)) (txt (2+t))):=V;have cP:∀d os,Calls Tryz.prog 74 #[.slice fa (len (2+t)) fc,.string c.field] (grow (redrawn u d) os) λe w''=>e= .returned (.int .i64 (pl (len (2+t)) (txt (2+t)) c.field))/\∃p:Regrown,w''=grow (redrawn u p.d) p.os:=λd os=>AF (FT _ _ _ (txt (2+t)) _ _ (V.kept (Av u d os)));have R:=As S;have r2:=As d2;have r4:=As d4;clear U V T
  go_wp2_with fail
  refine Ar (by kernel_rfl) (by kernel_rfl) ?_
  repeat (go_big_quiet_step (first|exact cP _ _))
  refine AK ?_;intro _ r;obtain⟨⟨o,osq⟩,m⟩:=r;subst m;have i:=Av u o osq;have v:Hid (RS (grow (redrawn u o) osq) base F n (.slice (some ⟨gf,0,none⟩) n y) l len txt):=s.out.kept i;have x:Hid (Below base w (grow (redrawn u o) osq)):=B.out.trans (i.mono E);have hz3:base<=(grow (redrawn u o) osq).heap.size:=Am E i.size;have HKF3:Hid (CF (grow (redrawn u o) osq) fa (len (2+t)) (txt (2+t))):=HKF.out.kept i;have f0:=BR i d0;have f1:=BR i S;have f2:=BR i d2;have f3:=BR i d3;have f4:=BR i d4;clear i cP R r2 r4 d0 S d2 d3 d4 s B HKF E;generalize grow (redrawn u o) osq=G at *
  by_cases hq:pl (len (2+t)) (txt (2+t)) c.field<0
  ·have a:Hid (GW n len txt c=(5,txt)):=by unfold Hid;rw[b.out];unfold Qh;rw[Af (.inl hq)]
   go_wp2_with fail
   go_ret;exact⟨by rw[a.out];rfl,by rw[a.out];exact v.out,x.out⟩
  by_cases z:c.field.size=0
  ·have a:Hid (GW n len txt c=(5,txt)):=by unfold Hid;rw[b.out];unfold Qh;rw[Af (.inr z)]
   have he1:c.field.toList.isEmpty=true:=Ef.2 z;have he2:(c.field.toList==[])=true:=by rw[EY.2 z];rfl
   clear z
   go_wp2_with fail
   go_ret;exact⟨by rw[a.out];rfl,by rw[a.out];exact v.out,x.out⟩
  have he1:c.field.toList.isEmpty=false:=by
   cases h:c.field.toList.isEmpty with
   |false=>rfl
   |true=>exact absurd (Ef.1 h) z
  obtain⟨q1,-,q3⟩:=Gn hq;have P:Hid (¬(pl (len (2+t)) (txt (2+t)) c.field<0\/c.field.size=0)):=λh=>h.elim hq z;have C:Hid (GW n len txt c=Qh len txt t c):=b;have aa:Hid (Qh len txt t c=if !Cb c.to||decide (0<=pl (len (2+t)) (txt (2+t)) c.to) then (6,txt) else (0,DP txt (2+t) (pl (len (2+t)) (txt (2+t)) c.field).toNat c.to)):=by
   unfold Hid Qh;rw[Ae P.out,Ae (by rw[HKD.out];decide)]
  generalize hfx:(pl (len (2+t)) (txt (2+t)) c.field).toNat=f at *;rw[q3];have hf':(f:Int)<(len (2+t):Int):=by omega
  have hf0:(0:Int)<=(f:Int):=by omega
  have hfl:f<len (2+t):=q1;clear hq z q3 hfx q1 P b;have N:∀d os,Calls Tryz.prog 75 #[.string c.to] (grow (redrawn G d) os) λe w''=>e= .returned (.bool (Cb c.to))/\∃p:Regrown,w''=grow (redrawn G p.d) p.os:=λd os=>AF (Dv _ _ hto);have Z:∀d os,Calls Tryz.prog 74 #[.slice fa (len (2+t)) fc,.string c.to] (grow (redrawn G d) os) λe w''=>e= .returned (.int .i64 (pl (len (2+t)) (txt (2+t)) c.to))/\∃p:Regrown,w''=grow (redrawn G p.d) p.os:=λd os=>AF (FT _ _ _ (txt (2+t)) _ _ (HKF3.out.kept (Av G d os)));have R:=As f1;have r3:=As f3;have r4:=As f4;cases L:Cb c.to
  ·have a:Hid (GW n len txt c=(6,txt)):=by unfold Hid;rw[C.out,aa.out];simp[L]
   rw[L]at N
   go_wp2_with fail
   refine Ar (by kernel_rfl) (by kernel_rfl) ?_
   repeat (go_big_quiet_step (first|exact N _ _|exact Z _ _))
   refine AK ?_;intro _ r;obtain⟨⟨o,osq⟩,m⟩:=r;subst m;have A:=Av G o osq;have H:Hid (RS (grow (redrawn G o) osq) base F n (.slice (some ⟨gf,0,none⟩) n y) l len txt):=v.out.kept A;have M:Hid (Below base w (grow (redrawn G o) osq)):=x.out.trans (A.mono hz3);clear A N Z R r3 r4
   go_wp2_with fail
   go_ret;exact⟨by rw[a.out];rfl,by rw[a.out];exact H.out,M.out⟩
  rw[L]at N
  by_cases hq:0<=pl (len (2+t)) (txt (2+t)) c.to
  ·have a:Hid (GW n len txt c=(6,txt)):=by unfold Hid;rw[C.out,aa.out];simp[hq]
   go_wp2_with fail
   refine Ar (by kernel_rfl) (by kernel_rfl) ?_
   repeat (go_big_quiet_step (first|exact N _ _|exact Z _ _))
   refine AK ?_;intro _ r;obtain⟨⟨o,osq⟩,m⟩:=r;subst m;have A:=Av G o osq;have H:Hid (RS (grow (redrawn G o) osq) base F n (.slice (some ⟨gf,0,none⟩) n y) l len txt):=v.out.kept A;have M:Hid (Below base w (grow (redrawn G o) osq)):=x.out.trans (A.mono hz3);clear A N Z R r3 r4
   go_wp2_with fail
   go_ret;exact⟨by rw[a.out];rfl,by rw[a.out];exact H.out,M.out⟩
  have a:Hid (GW n len txt c=(0,DP txt (2+t) f c.to)):=by unfold Hid;rw[C.out,aa.out];simp[L,hq]
  go_wp2_with fail
  refine Ar (by kernel_rfl) (by kernel_rfl) ?_
  repeat (go_big_quiet_step (first|exact N _ _|exact Z _ _))
  refine AK ?_;intro _ r;obtain⟨⟨o,osq⟩,m⟩:=r;subst m;have A:=Av G o osq;have H:Hid (RS (grow (redrawn G o) osq) base F n (.slice (some ⟨gf,0,none⟩) n y) l len txt):=v.out.kept A;have M:Hid (Below base w (grow (redrawn G o) osq)):=x.out.trans (A.mono hz3);have g1:=BR A f1;have g3:=BR A f3;have g4:=BR A f4;clear A N Z R r3 r4 f0 f1 f2 f3 f4 v x HKF3;generalize grow (redrawn G o) osq=w4 at *;have O:=H.out.texts (2+t) (by omega);rcases O.shape with⟨-,h0⟩|⟨g,cap,hv,hg,-,-⟩
  ·omega
  have hv2:(Value.slice fa (len (2+t)) fc)= .slice (some ⟨g,0,none⟩) (len (2+t)) cap:=by rw[<-HRT.out,hv]
  cases hv2;rw[hv]at O;have k0:=O.cell (j:=f) (by omega);have kz:=O.free f;unfold B3 at k0;have HS5:Hid (RS (w4.setCell ⟨g,f,none⟩ (.string c.to)) base F n (.slice (some ⟨gf,0,none⟩) n y) l len (DP txt (2+t) f c.to)):=H.out.setText (by omega) hv hto;have HB5:Hid (Below base w (w4.setCell ⟨g,f,none⟩ (.string c.to))):=M.out.setCell hg _;clear O hv
  go_wp2_with fail
  go_region
  all_goals (
   go_wp2_with fail
   go_ret;exact⟨by rw[a.out];rfl,by rw[a.out];exact HS5.out.kept ((Aq _ _).drew),HB5.out.drew⟩)
 ·rw[hk]at c0 hW ⊢
  go_enter Tryz.func73,Tryz.ntmps73
  go_wp2_with fail
  clear hW;generalize w.heap.size=bc at *;refine Ar (by kernel_rfl) (by kernel_rfl) ?_
  repeat (go_big_quiet_step (first|exact cP _ _))
  refine AK ?_;intro _ r;obtain⟨⟨o,osq⟩,m⟩:=r;subst m;have q:=Av W o osq;have s:Hid (RS (grow (redrawn W o) osq) base F n fv l len txt):=J.out.kept q;have B:Hid (Below base w (grow (redrawn W o) osq)):=Q.out.trans (q.mono K);have E:base<=(grow (redrawn W o) osq).heap.size:=Am K q.size;have I:Hid (CF (grow (redrawn W o) osq) ka n (txt 1)):=Y.out.kept q;have d0:=BR q c0;have S:=BR q b1;have d2:=BR q c2;have d3:=BR q c3;clear q R r2 cP c0 c1 c2 c3 b1 K J Q Y;generalize grow (redrawn W o) osq=u at *
  by_cases X:pl n (txt 1) c.type<0
  ·have b:Hid (GW n len txt c=(5,txt)):=KF (by omega) X
   clear hk
   go_wp2_with fail
   go_ret;exact⟨by rw[b.out];rfl,by rw[b.out];exact s.out,B.out⟩
  have b:Hid (GW n len txt c=Qh len txt (pl n (txt 1) c.type).toNat c):=LI (by omega) X;obtain⟨t1,-,t3⟩:=Gn X;generalize htn:(pl n (txt 1) c.type).toNat=t at *;rw[t3];have HKD:Hid (c.kind=3):=hk;clear hk X t3 htn I HK1 S;have ht':(t:Int)<(n:Int):=by omega
  have ht0:(0:Int)<=(t:Int):=by omega
  have T:=s.out.frow;rcases T.shape with⟨-,h0⟩|⟨gf,y,hfv,-,-,-⟩
  ·omega
  subst hfv;obtain⟨fa,fc,U,hfc,V⟩:=s.out.keys (k:=2+t) (by omega);have S:u.cell? ⟨F,2,none⟩=some (.slice (some ⟨gf,0,none⟩) n y):=by simp[World.cell?,s.out.box]
  have d4:=T.cell (j:=t) (by omega);rw[U]at d4;have hlen:len (2+t)<=9223372036854775807:=s.out.lens (2+t) (by omega);have HRT:Hid (l (2+t)= .slice fa (len (2+t)) fc):=U;have HKF:Hid (CF u fa (len (2+t)) (txt (2+t))):=V;have cP:∀d os,Calls Tryz.prog 74 #[.slice fa (len (2+t)) fc,.string c.field] (grow (redrawn u d) os) λe w''=>e= .returned (.int .i64 (pl (len (2+t)) (txt (2+t)) c.field))/\∃p:Regrown,w''=grow (redrawn u p.d) p.os:=λd os=>AF (FT _ _ _ (txt (2+t)) _ _ (V.kept (Av u d os)));have R:=As S;have r2:=As d2;have r4:=As d4;clear U V T
  go_wp2_with fail
  refine Ar (by kernel_rfl) (by kernel_rfl) ?_
  repeat (go_big_quiet_step (first|exact cP _ _))
  refine AK ?_;intro _ r;obtain⟨⟨o,osq⟩,m⟩:=r;subst m;have i:=Av u o osq;have v:Hid (RS (grow (redrawn u o) osq) base F n (.slice (some ⟨gf,0,none⟩) n y) l len txt):=s.out.kept i;have x:Hid (Below base w (grow (redrawn u o) osq)):=B.out.trans (i.mono E);have hz3:base<=(grow (redrawn u o) osq).heap.size:=Am E i.size;have HKF3:Hid (CF (grow (redrawn u o) osq) fa (len (2+t)) (txt (2+t))):=HKF.out.kept i;have f0:=BR i d0;have f1:=BR i S;have f2:=BR i d2;have f3:=BR i d3;have f4:=BR i d4;clear i cP R r2 r4 d0 S d2 d3 d4 s B HKF E;generalize grow (redrawn u o) osq=G at *
  by_cases hq:pl (len (2+t)) (txt (2+t)) c.field<0
  ·have a:Hid (GW n len txt c=(5,txt)):=by unfold Hid;rw[b.out];unfold Qh;rw[Af (.inl hq)]
   go_wp2_with fail
   go_ret;exact⟨by rw[a.out];rfl,by rw[a.out];exact v.out,x.out⟩
  by_cases z:c.field.size=0
  ·have a:Hid (GW n len txt c=(5,txt)):=by unfold Hid;rw[b.out];unfold Qh;rw[Af (.inr z)]
   have he1:c.field.toList.isEmpty=true:=Ef.2 z;have he2:(c.field.toList==[])=true:=by rw[EY.2 z];rfl
   clear z
   go_wp2_with fail
   go_ret;exact⟨by rw[a.out];rfl,by rw[a.out];exact v.out,x.out⟩
  have he1:c.field.toList.isEmpty=false:=by
   cases h:c.field.toList.isEmpty with
   |false=>rfl
   |true=>exact absurd (Ef.1 h) z
  obtain⟨q1,-,q3⟩:=Gn hq;have P:Hid (¬(pl (len (2+t)) (txt (2+t)) c.field<0\/c.field.size=0)):=λh=>h.elim hq z;have C:Hid (GW n len txt c=Qh len txt t c):=b;have aa:Hid (Qh len txt t c=(0,DP txt (2+t) (pl (len (2+t)) (txt (2+t)) c.field).toNat ⟨#[]⟩)):=by
   unfold Hid Qh;rw[Ae P.out,Af HKD.out]
  generalize hfx:(pl (len (2+t)) (txt (2+t)) c.field).toNat=f at *;rw[q3];have hf':(f:Int)<(len (2+t):Int):=by omega
  have hf0:(0:Int)<=(f:Int):=by omega
  have hfl:f<len (2+t):=q1;clear hq z q3 hfx q1 P b;have O:=v.out.texts (2+t) (by omega);rcases O.shape with⟨-,h0⟩|⟨g,cap,hv,hg,-,-⟩
  ·omega
  have hv2:(Value.slice fa (len (2+t)) fc)= .slice (some ⟨g,0,none⟩) (len (2+t)) cap:=by rw[<-HRT.out,hv]
  cases hv2;rw[hv]at O;have k0:=O.cell (j:=f) (by omega);have kz:=O.free f;unfold B3 at k0;have H:Hid (RS (G.setCell ⟨g,f,none⟩ (.string ⟨#[]⟩)) base F n (.slice (some ⟨gf,0,none⟩) n y) l len (DP txt (2+t) f ⟨#[]⟩)):=v.out.setText (by omega) hv (Ai _);have M:Hid (Below base w (G.setCell ⟨g,f,none⟩ (.string ⟨#[]⟩))):=x.out.setCell hg _;clear O hv
  go_wp2_with fail
  go_ret;exact⟨by rw[C.out,aa.out];rfl,by rw[C.out,aa.out];exact H.out,M.out⟩
end Go.Proofs.YtjjggefmmeminabGreat
