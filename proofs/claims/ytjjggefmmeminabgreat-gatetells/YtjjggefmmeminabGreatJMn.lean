import Derived.Test.YtjjggefmmeminabGreatJMt
namespace Go.Proofs.YtjjggefmmeminabGreat
open Go.RowKit Go.Sort Go.PlainAid
def CQ (V:Nat->LServ) (j:Nat):Nat:=(V j).nt
def BZ (V:Nat->LServ) (j:Nat):Nat->PSeen:=B7 (V j)
def DT (n:Nat) (V:Nat->LServ):Int × Int:=if (DE n V).1≠0 then DE n V else CA n (Gw (CQ V) (BZ V))
theorem E5{n:Nat}{V:Nat->LServ}(h:(DE n V).1=0):n<=5/\∀j,j<n->(JV (V j)).1=0/\(Cu (V j).nt (V j).T (V j).nx (V j).X).1=0:=by
 unfold DE at h
 by_cases c:5<n
 ·rw[Af c]at h;exact absurd h (by decide)
 ·rw[Ae c]at h
  refine⟨by omega,?_⟩;rcases FC n (λi=>CM (V i)) with⟨-,a⟩|⟨k,hk,e,b,-⟩
  ·intro j d
   have h1:=a j d;unfold CM at h1
   by_cases h2:(JV (V j)).1≠0
   ·rw[Af h2]at h1;exact absurd h1 h2
   ·rw[Ae h2]at h1;exact⟨Decidable.not_not.1 h2,h1⟩
  ·rw[e]at h;exact absurd h b
def Cg:Nat->Type
 | 0=>Empty
 | d+1=>ByteArray × ByteArray × List (Cg d)
def Sd {d:Nat} (s f:ByteArray) (l:List (Cg d)):Cg (d+1):=(s,f,l)
def Di {d:Nat} (p:Cg (d+1)):ByteArray:=Prod.fst (show ByteArray × ByteArray × List (Cg d) from p)
def BT {d:Nat} (p:Cg (d+1)):ByteArray:=Prod.fst (Prod.snd (show ByteArray × ByteArray × List (Cg d) from p))
def subs {d:Nat} (p:Cg (d+1)):List (Cg d):=Prod.snd (Prod.snd (show ByteArray × ByteArray × List (Cg d) from p))
theorem MN:∀L:List (Cg 0),L = []
 | []=>rfl
 | p :: _=>Empty.elim p
theorem C6{p:Prop}(h:p):Hid p:=h
def Ri (s:ByteArray):Bool:=decide (s.size=0)
theorem Nc(s:ByteArray):s.toList.isEmpty=Ri s:=by
 unfold Ri
 by_cases h:s.size=0
 ·rw[Bi h,BE];exact EY.2 h
 ·rw[AY h]
  cases he:s.toList.isEmpty with
  |false=>rfl
  |true=>exact absurd (EY.1 (List.isEmpty_iff.1 he)) h
def B8 {d:Nat} (p:Cg (d+1)):ByteArray:=if Ri (Di p) then BT p else Di p
def dP {d:Nat}:Cg (d+1):=Sd ⟨#[]⟩ ⟨#[]⟩ []
def BS {d:Nat} (L:List (Cg (d+1))) (i:Nat):Cg (d+1):=L.getD i dP
theorem CL{d:Nat}{L:List (Cg (d+1))}{i:Nat}(h:i<L.length):BS L i=L[i]:=by simp[BS,List.getD,h]
theorem Hm{d:Nat}{L:List (Cg (d+1))}{i:Nat}(h:i<L.length):L.drop i=BS L i :: L.drop (i+1):=by rw[CL h];exact List.drop_eq_getElem_cons h
theorem Hn{d:Nat}{L:List (Cg (d+1))}{i:Nat}(h:i<L.length):L.take (i+1)=L.take i++[BS L i]:=by rw[CL h];exact(List.take_append_getElem h).symm
def Jg {α:Type} (f:Nat->α->Int × Nat):Nat->List α->Int × Nat
 | n,[]=>(0,n)
 | n,p :: L=>if (f n p).1≠0 then f n p else Jg f (f n p).2 L
theorem Qw{α:Type}{f : Nat->α->Int × Nat}(hf:∀n p,n<=60->(f n p).2<=61/\((f n p).1=0->(f n p).2<=60)):∀(L:List α) (n:Nat),n<=60->(Jg f n L).2<=61/\((Jg f n L).1=0->(Jg f n L).2<=60)
 | [],n,hn=>⟨by show n<=61;omega,λ_=>hn⟩
 | p :: L,n,hn=>by
  have h1:=hf n p hn;rw[Jg]
  by_cases h:(f n p).1=0
  ·rw[Ae (by simp[h])];exact Qw hf L _ (h1.2 h)
  ·rw[Af h];exact h1
def Dp {d:Nat} (p:Cg (d+1)):Bool := !Cb (BT p)||(!Ri (Di p) && !Cb (Di p))
def wR:(d:Nat)->Nat->Nat->List (Cg d)->Int × Nat
 | 0,_,n,_=>(0,n)
 | d+1,deep,n,L=>Jg (λn p=>if 60<n+1 then (4,n+1) else if Dp p then (6,n+1) else if (subs p).isEmpty then (0,n+1) else if 8<deep+1 then (3,n+1) else wR d (deep+1) (n+1) (subs p)) n L
def wL (d deep n:Nat) (L:List (Cg d)):Int × Nat:=if 8<deep then (3,n) else if L.isEmpty then (4,n) else wR d deep n L
def wP (d deep n:Nat) (p:Cg (d+1)):Int × Nat:=if 60<n+1 then (4,n+1) else if Dp p then (6,n+1) else if (subs p).isEmpty then (0,n+1) else wL d (deep+1) (n+1) (subs p)
theorem IP(d deep n:Nat)(L:List (Cg (d+1))):wR (d+1) deep n L=Jg (wP d deep) n L:=by
 have e:(λn (p:Cg (d+1))=>if 60<n+1 then ((4:Int),n+1) else if Dp p then (6,n+1) else if (subs p).isEmpty then (0,n+1) else if 8<deep+1 then (3,n+1) else wR d (deep+1) (n+1) (subs p))=wP d deep:=by
  funext n p;unfold wP wL
  by_cases h:(subs p).isEmpty=true
  ·simp[h]
  ·simp[h]
 rw[wR,e]
theorem MZ(d deep n:Nat):wR d deep n []=(0,n):=by
 cases d with
 |zero=>rfl
 |succ d=>rw[IP];rfl
theorem J2(d deep n:Nat)(p:Cg (d+1))(L:List (Cg (d+1))):wR (d+1) deep n (p :: L)=if (wP d deep n p).1≠0 then wP d deep n p else wR (d+1) deep (wP d deep n p).2 L:=by rw[IP,Jg,IP]
theorem QC:∀(d deep n:Nat) (L:List (Cg d)),n<=60->(wR d deep n L).2<=61/\((wR d deep n L).1=0->(wR d deep n L).2<=60)
 | 0,_,n,_,hn=>⟨by show n<=61;omega,λ_=>hn⟩
 | d+1,deep,n,L,hn=>by
  rw[IP];refine Qw (λn p hn=>?_) L n hn;unfold wP wL
  by_cases h1:60<n+1
  ·rw[Af h1];exact⟨by show n+1<=61;omega,λh=>by cases h⟩
  rw[Ae h1]
  by_cases h2:Dp p=true
  ·rw[Af h2];exact⟨by show n+1<=61;omega,λh=>by cases h⟩
  rw[Ae h2]
  by_cases h3:(subs p).isEmpty=true
  ·rw[Af h3];exact⟨by show n+1<=61;omega,λ_=>by show n+1<=60;omega⟩
  rw[Ae h3]
  by_cases h4:8<deep+1
  ·rw[Af h4];exact⟨by show n+1<=61;omega,λh=>by cases h⟩
  rw[Ae h4,Ae h3];exact QC d (deep+1) (n+1) (subs p) (by omega)
theorem UO(d deep n:Nat)(L:List (Cg d))(hn:n<=60):(wL d deep n L).2<=61/\((wL d deep n L).1=0->(wL d deep n L).2<=60):=by
 unfold wL
 by_cases h1:8<deep
 ·rw[Af h1];exact⟨by show n<=61;omega,λh=>by cases h⟩
 rw[Ae h1]
 by_cases h2:L.isEmpty=true
 ·rw[Af h2];exact⟨by show n<=61;omega,λh=>by cases h⟩
 rw[Ae h2];exact QC d deep n L hn
theorem Ub(d deep n:Nat)(p:Cg (d+1))(hn:n<=60):(wP d deep n p).2<=61/\((wP d deep n p).1=0->(wP d deep n p).2<=60):=by
 unfold wP
 by_cases h1:60<n+1
 ·rw[Af h1];exact⟨by show n+1<=61;omega,λh=>by cases h⟩
 rw[Ae h1]
 by_cases h2:Dp p=true
 ·rw[Af h2];exact⟨by show n+1<=61;omega,λh=>by cases h⟩
 rw[Ae h2]
 by_cases h3:(subs p).isEmpty=true
 ·rw[Af h3];exact⟨by show n+1<=61;omega,λ_=>by show n+1<=60;omega⟩
 rw[Ae h3];exact UO d _ _ _ (by omega)
def wA (d:Nat) (type key:ByteArray) (L:List (Cg d)):Int:=if !Cb type || !Cb key then 6 else (wL d 1 0 L).1
structure LPart where
 name:ByteArray
 fa:Option Addr
 nf:Nat
 fcap:Nat
 F:Nat->LField
 oa:Option Addr
 no:Nat
 ocap:Nat
 ha:Option Addr
 nh:Nat
 hcap:Nat
def Ca (n:Nat) (P:Nat->LPart) (name:ByteArray):Int:=Ds n (λi=>eqs (P i).name name)
def OY {α:Type} (f:List ByteArray->α->Int) (nm:α->ByteArray):List ByteArray->List α->Int
 | _,[]=>0
 | ahead,p :: L=>if f ahead p≠0 then f ahead p else OY f nm (ahead++[nm p]) L
def cR (n:Nat) (P:Nat->LPart):(d:Nat)->Nat->(Nat->LField)->List ByteArray->List (Cg d)->Int
 | 0,_,_,_,_=>0
 | d+1,nf,F,ahead,L=>OY (λahead p=>if BX nf F (BT p)<0 then 5 else if ahead.any (λq=>eqs q (B8 p)) then 6 else
   if decide ((F (BX nf F (BT p)).toNat).kind=1) == !(subs p).isEmpty then 7 else if (subs p).isEmpty then 0 else
   if Ca n P (F (BX nf F (BT p)).toNat).type<0 then 5 else cR n P d (P (Ca n P (F (BX nf F (BT p)).toNat).type).toNat).nf (P (Ca n P (F (BX nf F (BT p)).toNat).type).toNat).F [] (subs p)) B8 ahead L
def cL (n:Nat) (P:Nat->LPart) (d:Nat) (name:ByteArray) (L:List (Cg d)):Int:=if Ca n P name<0 then 5 else cR n P d (P (Ca n P name).toNat).nf (P (Ca n P name).toNat).F [] L
def cP (n:Nat) (P:Nat->LPart) (d nf:Nat) (F:Nat->LField) (ahead:List ByteArray) (p:Cg (d+1)):Int:=if BX nf F (BT p)<0 then 5 else if ahead.any (λq=>eqs q (B8 p)) then 6 else
   if decide ((F (BX nf F (BT p)).toNat).kind=1) == !(subs p).isEmpty then 7 else if (subs p).isEmpty then 0 else cL n P d (F (BX nf F (BT p)).toNat).type (subs p)
theorem Ti(n:Nat)(P:Nat->LPart)(d nf:Nat)(F:Nat->LField)(ahead:List ByteArray):cR n P d nf F ahead []=0:=by
 cases d with
 |zero=>rfl
 |succ d=>rfl
theorem IK(n:Nat)(P:Nat->LPart)(d nf:Nat)(F:Nat->LField)(ahead:List ByteArray)(p:Cg (d+1))(L:List (Cg (d+1))):cR n P (d+1) nf F ahead (p :: L)=if cP n P d nf F ahead p≠0 then cP n P d nf F ahead p else cR n P (d+1) nf F (ahead++[B8 p]) L:=by
 rw[cR,OY];rfl
def cA (n:Nat) (P:Nat->LPart) (d:Nat) (type key:ByteArray) (L:List (Cg d)):Int:=if wA d type key L≠0 then wA d type key L else cL n P d type L
def Dk (s:LServ) (ty key:ByteArray):Bool:=decide (0<=Ds s.nx (Cf s.X ty key))
def CC (s:LServ) (ty key:ByteArray):LThing:=s.X (Ds s.nx (Cf s.X ty key)).toNat
def dV:LVal:=⟨⟨#[]⟩,⟨#[]⟩,none,0,0,λ_=>⟨#[]⟩⟩
def F8 (x:LThing) (f:ByteArray):LVal:=if Ds x.nv (λj=>eqs (x.V j).field f)<0 then dV else x.V (Ds x.nv (λj=>eqs (x.V j).field f)).toNat
def D3 (v:LVal):List ByteArray:=(List.range v.nk).map v.K
def DY (V:Nat->LServ) (p:PPart) (key:ByteArray):Bool:=p.hs.any (λh=>Dk (V h.svc.toNat) h.type key)
def EQ (p:PPart) (nm:ByteArray):LField:=De p (BX p.fs.length (De p) nm).toNat
def Dd (p:PPart) (nm:ByteArray):POwner:=D1 p (BX p.fs.length (De p) nm).toNat
def Du (L:List PPart) (nm:ByteArray):PPart:=Ci L (Ds L.length (λi=>eqs (Ci L i).name nm)).toNat
def DH:Nat->Type
 | 0=>Empty
 | d+1=>ByteArray × Int × Bool × ByteArray × List (DH d) × List (List (DH d))
def EN {d:Nat} (nm:ByteArray) (k:Int) (z:Bool) (t:ByteArray) (s:List (DH d)) (a:List (List (DH d))):DH (d+1):=(nm,k,z,t,s,a)
def R5 {d:Nat} (g:DH (d+1)):ByteArray × Int × Bool × ByteArray × List (DH d) × List (List (DH d)):=g
def Fp {d:Nat} (g:DH (d+1)):ByteArray:=(R5 g).1
def Fq {d:Nat} (g:DH (d+1)):Int:=(R5 g).2.1
def Fo {d:Nat} (g:DH (d+1)):Bool:=(R5 g).2.2.1
def Fm {d:Nat} (g:DH (d+1)):ByteArray:=(R5 g).2.2.2.1
def Fr {d:Nat} (g:DH (d+1)):List (DH d):=(R5 g).2.2.2.2.1
def DN {d:Nat} (g:DH (d+1)):List (List (DH d)):=(R5 g).2.2.2.2.2
theorem Ve:∀L:List (DH 0),L = []
 | []=>rfl
 | p :: _=>Empty.elim p
def dG {d:Nat}:DH (d+1):=EN ⟨#[]⟩ 0 false ⟨#[]⟩ [] []
def Ei {d:Nat} (L:List (DH (d+1))) (i:Nat):DH (d+1):=L.getD i dG
def NM {d:Nat} (nm:ByteArray) (k:Int) (a:List (List (DH d))):DH (d+1):=if k=2 then EN nm k a.isEmpty ⟨#[]⟩ (a.headD []) [] else EN nm k false ⟨#[]⟩ [] a
def To {d:Nat} (V:Nat->LServ) (L:List PPart) (a:PPart->ByteArray->List (Cg d)->List (DH d)) (f:LField) (v:LVal) (ps:List (Cg d)):List (List (DH d)) :=
 ((D3 v).filter (DY V (Du L f.type))).map (λkey=>a (Du L f.type) key ps)
def Uo {d:Nat} (V:Nat->LServ) (L:List PPart) (a:PPart->ByteArray->List (Cg d)->List (DH d)) (nm:ByteArray) (f:LField) (v:LVal) (ps:List (Cg d)):DH (d+1) :=
 if f.kind=1 then EN nm f.kind false v.text [] [] else NM nm f.kind (To V L a f v ps)
def UE {d:Nat} (V:Nat->LServ) (L:List PPart) (a:PPart->ByteArray->List (Cg d)->List (DH d)) (key nm:ByteArray) (f:LField) (o:POwner) (ps:List (Cg d)):DH (d+1) :=
 if Dk (V o.svc.toNat) o.type key=true then Uo V L a nm f (F8 (CC (V o.svc.toNat) o.type key) o.field) ps else EN nm f.kind true ⟨#[]⟩ [] []
def Ki {d:Nat} (V:Nat->LServ) (L:List PPart) (a:PPart->ByteArray->List (Cg d)->List (DH d)) (p:PPart) (key:ByteArray) (k:Cg (d+1)):DH (d+1) :=
 UE V L a key (B8 k) (EQ p (BT k)) (Dd p (BT k)) (subs k)
def D9 (V:Nat->LServ) (L:List PPart):(d:Nat)->PPart->ByteArray->List (Cg d)->List (DH d)
 | 0,_,_,_=>[]
 | d+1,p,key,ps=>ps.map (Ki V L (D9 V L d) p key)
theorem Jj(V:Nat->LServ)(L:List PPart)(d:Nat)(p:PPart)(key:ByteArray)(ps:List (Cg (d+1))):D9 V L (d+1) p key ps=ps.map (Ki V L (D9 V L d) p key):=rfl
theorem NW(V:Nat->LServ)(L:List PPart)(d:Nat)(p:PPart)(key:ByteArray)(ps:List (Cg d)):(D9 V L d p key ps).length=ps.length:=by
 cases d with
 |zero=>rw[MN ps];rfl
 |succ d=>rw[Jj,A6]
def DI (L:List PPart) (i:Nat):LPart:=⟨(Ci L i).name,none,(Ci L i).fs.length,0,De (Ci L i),none,0,0,none,0,0⟩
theorem NX{n:Nat}{P b:Nat->LPart}(c:∀i,i<n->(P i).name=(b i).name/\(P i).nf=(b i).nf/\∀j,j<(P i).nf->(P i).F j=(b i).F j):∀(d:Nat) {nf:Nat} {F a:Nat->LField},(∀j,j<nf->F j=a j)->∀(ahead:List ByteArray) (L:List (Cg d)),cR n P d nf F ahead L=cR n b d nf a ahead L
 | 0,_,_,_,_,_,_=>rfl
 | d+1,nf,F,a,hF,ahead,L=>by
  have hi:∀nm,Ca n P nm=Ca n b nm:=λnm=>Fv λi h=>by rw[(c i h).1]
  have hf:∀nm,BX nf F nm=BX nf a nm:=λnm=>Fv λi h=>by rw[hF i h]
  induction L generalizing ahead with
  |nil=>rfl
  |cons p L ih =>
   have l:cP n P d nf F ahead p=cP n b d nf a ahead p:=by
    unfold cP cL;rw[hf]
    by_cases h1:BX nf a (BT p)<0
    ·rw[Af h1,Af h1]
    rw[Ae h1,Ae h1];have e:(BX nf a (BT p)).toNat<nf:=by
     rcases CE nf (λi=>eqs (a i).name (BT p)) with⟨h,-⟩|⟨k,hk,h,-,-⟩
     ·have:BX nf a (BT p) = -1:=h
      omega
     ·have:BX nf a (BT p)=k:=h
      omega
    rw[hF _ e,hi]
    by_cases h2:Ca n b (a (BX nf a (BT p)).toNat).type<0
    ·rw[Af h2,Af h2]
    have g:(Ca n b (a (BX nf a (BT p)).toNat).type).toNat<n:=by
     rcases CE n (λi=>eqs (b i).name (a (BX nf a (BT p)).toNat).type) with⟨h,-⟩|⟨k,hk,h,-,-⟩
     ·have:Ca n b (a (BX nf a (BT p)).toNat).type = -1:=h
      omega
     ·have:Ca n b (a (BX nf a (BT p)).toNat).type=k:=h
      omega
    obtain⟨-,h4,m⟩:=c _ g;rw[Ae h2,Ae h2,NX c d m,h4]
   rw[IK,IK,l,ih]
theorem Su{n:Nat}{P a:Nat->LPart}(b:∀i,i<n->(P i).name=(a i).name/\(P i).nf=(a i).nf/\∀j,j<(P i).nf->(P i).F j=(a i).F j)(d:Nat)(type key:ByteArray)(L:List (Cg d)):cA n P d type key L=cA n a d type key L:=by
 unfold cA cL;have hi:Ca n P type=Ca n a type:=Fv λi h=>by rw[(b i h).1]
 rw[hi]
 by_cases h2:Ca n a type<0
 ·rw[Af h2,Af h2]
 have c:(Ca n a type).toNat<n:=by
  rcases CE n (λi=>eqs (a i).name type) with⟨h,-⟩|⟨k,hk,h,-,-⟩
  ·have:Ca n a type = -1:=h
   omega
  ·have:Ca n a type=k:=h
   omega
 obtain⟨-,h4,e⟩:=b _ c;rw[Ae h2,Ae h2,NX b d e,h4]
def Lu (V:Nat->LServ) (L:List PPart) (d:Nat) (type key:ByteArray) (ps:List (Cg d)):Int :=
 if cA L.length (DI L) d type key ps≠0 then cA L.length (DI L) d type key ps else if DY V (Du L type) key=true then 0 else 5
def GB (n:Nat) (V:Nat->LServ) (d:Nat) (type key:ByteArray) (ps:List (Cg d)):Int:=if (DT n V).1≠0 then (DT n V).1 else Lu V (Cr (CQ V) (BZ V) n) d type key ps
def Jx (n:Nat) (V:Nat->LServ) (d:Nat) (type key:ByteArray) (ps:List (Cg d)):List (DH d):=if GB n V d type key ps=0 then D9 V (Cr (CQ V) (BZ V) n) d (Du (Cr (CQ V) (BZ V) n) type) key ps else []
theorem Ks{n:Nat}{V:Nat->LServ}{d:Nat}{type key:ByteArray}{ps:List (Cg d)}:GB n V d type key ps=0↔(DT n V).1=0/\cA (Cr (CQ V) (BZ V) n).length (DI (Cr (CQ V) (BZ V) n)) d type key ps=0/\DY V (Du (Cr (CQ V) (BZ V) n) type) key=true:=by
 unfold GB Lu
 by_cases h1:(DT n V).1=0
 ·rw[Ae (λh=>h h1)]
  by_cases h2:cA (Cr (CQ V) (BZ V) n).length (DI (Cr (CQ V) (BZ V) n)) d type key ps=0
  ·rw[Ae (λh=>h h2)]
   by_cases h3:DY V (Du (Cr (CQ V) (BZ V) n) type) key=true
   ·rw[Af h3];exact⟨λ_=>⟨h1,h2,h3⟩,λ_=>rfl⟩
   ·rw[Ae h3];exact⟨λh=>absurd h (by decide),λh=>absurd h.2.2 h3⟩
  ·rw[Af h2];exact⟨λh=>absurd h h2,λh=>absurd h.2.1 h2⟩
 ·rw[Af h1];exact⟨λh=>absurd h h1,λh=>absurd h.1 h1⟩
theorem NJ:∀(d deep n:Nat) (L:List (Cg d)),(wR d deep n L).1=0->n<=(wR d deep n L).2
 | 0,_,n,_,_=>Aj _
 | d+1,deep,n,L,h=>by
  induction L generalizing n with
  |nil=>rw[MZ];exact Aj _
  |cons p L ih =>
   rw[J2]at h ⊢
   by_cases h0:(wP d deep n p).1=0
   ·rw[Ae (by simp[h0])]at h ⊢
    have h1:n<=(wP d deep n p).2:=by
     unfold wP wL at h0 ⊢
     by_cases h1:60<n+1
     ·rw[Af h1]at h0;cases h0
     rw[Ae h1]at h0 ⊢
     by_cases h2:Dp p=true
     ·rw[Af h2]at h0;cases h0
     rw[Ae h2]at h0 ⊢
     by_cases h3:(subs p).isEmpty=true
     ·rw[Af h3];show n<=n+1;omega
     rw[Ae h3]at h0 ⊢
     by_cases h4:8<deep+1
     ·rw[Af h4]at h0;cases h0
     rw[Ae h4,Ae h3]at h0 ⊢;have:=NJ d (deep+1) (n+1) (subs p) h0;omega
    exact Am h1 (ih _ h)
   ·rw[Af h0]at h;exact absurd h h0
theorem Ur(n:Nat)(P:Nat->LPart)(d nf:Nat)(F:Nat->LField)(ahead:List ByteArray)(L:List (Cg (d+1))):cR n P (d+1) nf F ahead L=OY (cP n P d nf F) B8 ahead L:=by
 induction L generalizing ahead with
 |nil=>rfl
 |cons p L ih=>rw[IK,OY,ih]
theorem L8{α:Type}{f : List ByteArray->α->Int}{nm:α->ByteArray} : ∀(L:List α) (a:List ByteArray),OY f nm a L=0->∀(i:Nat) (h:i<L.length),∃b,f b L[i]=0
 | [],_,_,i,h=>absurd h (Ak _)
 | p :: L,a,h0,i,h=>by
  rw[OY]at h0
  by_cases h1:f a p=0
  ·rw[Ae (by simp[h1])]at h0
   cases i with
   |zero=>exact⟨a,h1⟩
   |succ i=>exact L8 L _ h0 i (by simpa using h)
  ·rw[Af h1]at h0;exact absurd h0 h1
theorem QE{n:Nat}{P:Nat->LPart}{d nf:Nat}{F:Nat->LField}{ahead:List ByteArray}{L:List (Cg (d+1))}(h:cR n P (d+1) nf F ahead L=0){i:Nat}(hi:i<L.length):∃a,cP n P d nf F a (BS L i)=0:=by
 rw[Ur]at h;rw[CL hi];exact L8 L ahead h i hi
theorem Qt{n:Nat}{P:Nat->LPart}{d nf:Nat}{F:Nat->LField}{ahead:List ByteArray}{p:Cg (d+1)}(h:cP n P d nf F ahead p=0) : ¬BX nf F (BT p)<0/\(((F (BX nf F (BT p)).toNat).kind=1/\subs p = [])\/((F (BX nf F (BT p)).toNat).kind≠1/\subs p≠[]/\¬Ca n P (F (BX nf F (BT p)).toNat).type<0/\cR n P d (P (Ca n P (F (BX nf F (BT p)).toNat).type).toNat).nf (P (Ca n P (F (BX nf F (BT p)).toNat).type).toNat).F [] (subs p)=0)):=by
 unfold cP at h
 by_cases h1:BX nf F (BT p)<0
 ·rw[Af h1]at h;cases h
 rw[Ae h1]at h;refine⟨h1,?_⟩
 by_cases h2:ahead.any (λq=>eqs q (B8 p))=true
 ·rw[Af h2]at h;cases h
 rw[Ae h2]at h
 by_cases hk:(F (BX nf F (BT p)).toNat).kind=1
 ·by_cases hs:subs p = []
  ·exact .inl ⟨hk,hs⟩
  ·have he:(subs p).isEmpty=false:=by rw[Bool.eq_false_iff];intro h;exact hs (List.isEmpty_iff.1 h)
   rw[he,Bi hk]at h;simp at h
 ·by_cases hs:subs p = []
  ·rw[hs,AY hk]at h;simp at h
  ·have he:(subs p).isEmpty=false:=by rw[Bool.eq_false_iff];intro h;exact hs (List.isEmpty_iff.1 h)
   rw[he,AY hk,Ae (by decide),Ae (by decide)]at h;unfold cL at h
   by_cases hq:Ca n P (F (BX nf F (BT p)).toNat).type<0
   ·rw[Af hq]at h;cases h
   ·rw[Ae hq]at h;exact .inr ⟨hk,hs,hq,h⟩
theorem E4{n:Nat}{p:Nat->Bool}(h : ¬Ds n p<0):(Ds n p).toNat<n/\p (Ds n p).toNat=true:=by
 rcases CE n p with⟨a,-⟩|⟨k,hk,a,b,-⟩
 ·omega
 ·rw[a,Ax];exact⟨hk,b⟩
theorem TU{L:List PPart}{nm:ByteArray}(h : ¬Ca L.length (DI L) nm<0):Du L nm∈L:=by
 have h1:=(E4 (p:=λi=>eqs (Ci L i).name nm) h).1;unfold Du;rw[QB h1];exact AW h1
end Go.Proofs.YtjjggefmmeminabGreat
namespace Go.Proofs.YtjjggefmmeminabGreat
open Go.RowKit Go.Sort
def MF (e:Int × PSeen):List (LField × POwner):=(List.range e.2.nf).map (λq=>(e.2.F q,⟨e.1,e.2.own,e.2.O q⟩))
def Ht (nm:ByteArray) (E:List (Int × PSeen)):List (Int × PSeen):=E.filter (λe=>eqs e.2.name nm)
def PL (nm:ByteArray) (E:List (Int × PSeen)):List (LField × POwner):=(Ht nm E).flatMap MF
def Hi (e:Int × PSeen):POwner:=⟨e.1,e.2.own,⟨#[]⟩⟩
def EL (nm:ByteArray) (E:List (Int × PSeen)):PPart:=⟨nm,(PL nm E).map (·.1),(PL nm E).map (·.2),(Ht nm E).map Hi⟩
structure Char (L:List PPart) (E:List (Int × PSeen)):Prop where
 rise:Ik L
 part:∀i,i<L.length->Ci L i=EL (Ci L i).name E
 some:∀i,i<L.length->Ht (Ci L i).name E≠[]
 has:∀e∈E,∃i,i<L.length/\(Ci L i).name=e.2.name
theorem Ss{L:List PPart}(a:Ik L){i:Nat}(hi:i<L.length):pos L (Ci L i).name=i/\Fx L (Ci L i).name=true:=by
 have h1:pos L (Ci L i).name=i:=Pv (BF hi) (λt b=>a t i b hi) (λ_=>L7 _);refine⟨h1,?_⟩;unfold Fx;rw[h1,Bi hi,Ch.2 rfl];rfl
theorem Fk{nm:ByteArray}{E:List (Int × PSeen)}{e:Int × PSeen}(h:e.2.name=nm):Ht nm (E++[e])=Ht nm E++[e]:=by
 unfold Ht;rw[Bj];simp[Ch.2 h]
theorem FF{nm:ByteArray}{E:List (Int × PSeen)}{e:Int × PSeen}(h:e.2.name≠nm):Ht nm (E++[e])=Ht nm E:=by
 unfold Ht;rw[Bj];simp[Db.2 h]
theorem Ql{nm:ByteArray}{E:List (Int × PSeen)}{e:Int × PSeen}(h:e.2.name≠nm):EL nm (E++[e])=EL nm E:=by
 unfold EL PL;rw[FF h]
theorem N3{E:List (Int × PSeen)}{svc:Int}{t : PSeen} : EL t.name (E++[(svc,t)])=Cc (EL t.name E) svc t t.nf:=by
 unfold EL PL Cc;rw[Fk (nm:=t.name) (E:=E) (e:=(svc,t)) rfl];simp[MF,Hi,List.flatMap_append,Function.comp_def]
theorem Uu{nm:ByteArray}{E:List (Int × PSeen)}(h:Ht nm E = []):EL nm E=Mv nm:=by
 unfold EL PL Mv;rw[h];rfl
theorem Char.ins{L:List PPart}{E:List (Int × PSeen)}(h:Char L E)(s:ByteArray):∀i,i<(ins L s).length->Ci (Go.Proofs.YtjjggefmmeminabGreat.ins L s) i=EL (Ci (Go.Proofs.YtjjggefmmeminabGreat.ins L s) i).name E/\(i≠pos L s->Ht (Ci (Go.Proofs.YtjjggefmmeminabGreat.ins L s) i).name E≠[]/\(Ci (Go.Proofs.YtjjggefmmeminabGreat.ins L s) i).name≠s):=λi hi=>by
 cases hh:Fx L s with
 |true =>
  have k:=GP (L:=L) (s:=s);rw[GF hh]at hi k ⊢;refine⟨h.part i hi,λa=>⟨h.some i hi,λe=>a ?_⟩⟩;rw[<-e];exact((Ss h.rise hi).1).symm
 |false =>
  have b:∀j,j<L.length->(Ci L j).name≠s:=λj d e=>by
   have:=(Ss h.rise d).2;rw[e,hh]at this;cases this
  have c:Ht s E = []:=by
   unfold Ht;rw[List.filter_eq_nil_iff];intro e he g;obtain⟨j,d,e1⟩:=h.has e he;exact b j d (e1.trans (Ch.1 g))
  rw[Gj hh]at hi;rw[EU hh]
  by_cases c1:i<pos L s
  ·have:=F2 L s
   rw[Af c1];exact⟨h.part i (by omega),λ_=>⟨h.some i (by omega),b i (by omega)⟩⟩
  ·rw[Ae c1]
   by_cases c2:i=pos L s
   ·rw[Af c2];exact⟨(Uu c).symm,λa=>absurd c2 a⟩
   ·rw[Ae c2];exact⟨h.part (i - 1) (by omega),λ_=>⟨h.some (i - 1) (by omega),b (i - 1) (by omega)⟩⟩
theorem TQ{L:List PPart}{s nm:ByteArray}(h:∃i,i<L.length/\(Ci L i).name=nm):∃i,i<(ins L s).length/\(Ci (ins L s) i).name=nm:=by
 obtain⟨i,hi,e⟩:=h
 cases hh:Fx L s with
 |true=>rw[GF hh];exact⟨i,hi,e⟩
 |false =>
  by_cases c:i<pos L s
  ·exact⟨i,by rw[Gj hh];omega,by rw[EU hh,Af c];exact e⟩
  ·exact⟨i+1,by rw[Gj hh];omega,by rw[EU hh,Ae (by omega),Ae (by omega)];exact e⟩
theorem Char.step{L:List PPart}{E:List (Int × PSeen)}(h:Char L E)(svc:Int)(t:PSeen):Char (Ez svc L t) (E++[(svc,t)]):=by
 obtain⟨a,b⟩:=GP (L:=L) (s:=t.name);have c:(Ez svc L t).length=(Go.Proofs.YtjjggefmmeminabGreat.ins L t.name).length:=by unfold Ez;rw[Be]
 have hn:∀i,i<(Go.Proofs.YtjjggefmmeminabGreat.ins L t.name).length->Ci (Ez svc L t) i=if i=pos L t.name then EL t.name (E++[(svc,t)]) else Ci (Go.Proofs.YtjjggefmmeminabGreat.ins L t.name) i:=λi hi=>by
  unfold Ez;rw[Gc a]
  by_cases e:i=pos L t.name
  ·rw[Af e,Af e,N3,(h.ins t.name _ a).1,b]
  ·rw[Ae e,Ae e]
 refine⟨LB h.rise,λi hi=>?_,λi hi=>?_,λe he=>?_⟩
 ·rw[c]at hi
  rw[hn i hi]
  by_cases e:i=pos L t.name
  ·rw[Af e];rfl
  ·rw[Ae e]
   obtain⟨g,d⟩:=h.ins t.name i hi;rw[Ql (d e).2.symm];exact g
 ·rw[c]at hi
  rw[hn i hi]
  by_cases e:i=pos L t.name
  ·rw[Af e]
   show Ht t.name (E++[(svc,t)])≠[];rw[Fk (nm:=t.name) (E:=E) (e:=(svc,t)) rfl];simp
  ·rw[Ae e]
   obtain⟨-,d⟩:=h.ins t.name i hi;rw[FF (d e).2.symm];exact(d e).1
 ·have hk:∀i,i<(Go.Proofs.YtjjggefmmeminabGreat.ins L t.name).length->(Ci (Ez svc L t) i).name=(Ci (Go.Proofs.YtjjggefmmeminabGreat.ins L t.name) i).name:=λi hi=>by
   rw[hn i hi]
   by_cases e:i=pos L t.name
   ·rw[Af e,e,b];rfl
   ·rw[Ae e]
  rcases List.mem_append.1 he with he|he
  ·obtain⟨i,hi,e1⟩:=TQ (s:=t.name) (h.has e he)
   exact⟨i,by rw[c];exact hi,by rw[hk i hi];exact e1⟩
  ·have:e=(svc,t):=by simpa using he
   subst this;exact⟨_,by rw[c];exact a,by rw[hk _ a];exact b⟩
def OI (E:List (Int × PSeen)):Prop := ∀nm,((PL nm E).map (λx=>x.1.name)).Nodup
theorem RC{p:PPart}{t : PSeen}(l:(p.fs.map (·.name)).Nodup):JP p t=0↔((p.fs++(List.range t.nf).map t.F).map (·.name)).Nodup:=by
 have key:∀k,(∀j,j<k->Fj p t j=false)↔((p.fs++(List.range k).map t.F).map (·.name)).Nodup:=λk=>by
  induction k with
  |zero=>simpa using l
  |succ k ih =>
   have e:p.fs++(List.range (k+1)).map t.F=(p.fs++(List.range k).map t.F)++[t.F k]:=by rw[AA,AH,AR];rfl
   rw[e,AH,List.nodup_append];clear e;constructor
   ·intro h
    refine⟨ih.1 λj c=>h j (by omega),by simp,λa ha b hb=>?_⟩;have d:b=(t.F k).name:=by simpa using hb
    rw[d];rintro rfl;obtain⟨f,hf,g⟩:=List.mem_map.1 ha;have:=h k (by omega);unfold Fj at this;rw[List.any_eq_false]at this;exact this f hf (Ch.2 g)
   ·rintro⟨h1,-,h3⟩ j c
    by_cases e:j<k
    ·exact ih.2 h1 j e
    ·have:j=k:=by omega
     subst this;unfold Fj;rw[List.any_eq_false];intro f hf he;exact h3 f.name (List.mem_map.2 ⟨f,hf,rfl⟩) (t.F j).name (by simp) (Ch.1 he)
 rw[<-key t.nf];unfold JP;constructor
 ·intro h j c
  by_cases hc:(List.range t.nf).any (Fj p t)=true
  ·rw[Af hc]at h;exact absurd h (by decide)
  ·cases i:Fj p t j with
   |false=>rfl
   |true=>exact absurd (List.any_eq_true.2 ⟨j,by simpa using c,i⟩) hc
 ·intro h
  rw[Ae];intro hc;obtain⟨k,hk,e⟩:=List.any_eq_true.1 hc;rw[h k (by simpa using hk)]at e;cases e
theorem Char.err{L:List PPart}{E:List (Int × PSeen)}(h:Char L E)(i:OI E)(svc:Int)(t:PSeen):Gm L t=0↔OI (E++[(svc,t)]):=by
 obtain⟨b,c⟩:=GP (L:=L) (s:=t.name);have j:Ci (Go.Proofs.YtjjggefmmeminabGreat.ins L t.name) (pos L t.name)=EL t.name E:=by rw[(h.ins t.name _ b).1,c]
 have a:(EL t.name E).fs.map (·.name)=(PL t.name E).map (λx=>x.1.name):=by unfold EL;simp[Function.comp_def]
 have d:(PL t.name (E++[(svc,t)])).map (λx=>x.1.name)=((EL t.name E).fs++(List.range t.nf).map t.F).map (·.name):=by
  unfold PL;rw[Fk (nm:=t.name) (E:=E) (e:=(svc,t)) rfl,Bf,AH,AH,a];unfold PL;simp[MF,Function.comp_def]
 unfold Gm;rw[j,RC (by rw[a];exact i _),<-d];constructor
 ·intro g nm
  by_cases e:t.name=nm
  ·rw[<-e];exact g
  ·unfold PL;rw[FF e];exact i nm
 ·intro g;exact g _
theorem Nr{E:List (Int × PSeen)}{e:Int × PSeen}(h:OI (E++[e])):OI E:=λnm=>by
 have h1:=h nm
 by_cases c:e.2.name=nm
 ·unfold PL at h1
  rw[Fk c,Bf,AH,List.nodup_append]at h1;exact h1.1
 ·unfold PL at h1
  rw[FF c]at h1;exact h1
theorem TR:OI []:=λnm=>by simp[PL,Ht]
def EO (svc:Int) (S:Nat->PSeen) (k:Nat):List (Int × PSeen):=(List.range k).map (λj=>(svc,S j))
def DZ (n:Nat->Nat) (S:Nat->Nat->PSeen):Nat->List (Int × PSeen)
 | 0=>[]
 | i+1=>DZ n S i++EO (i:Int) (S i) (n i)
theorem Ga(svc:Int)(S:Nat->PSeen)(k:Nat):EO svc S (k+1)=EO svc S k++[(svc,S k)]:=by unfold EO;rw[AA,AH];rfl
theorem Char.fold{L:List PPart}{E:List (Int × PSeen)}(h:Char L E)(svc:Int)(S:Nat->PSeen):∀k,Char (Dh svc L S k) (E++EO svc S k)
 | 0=>by simpa[Dh,EO] using h
 | k+1=>by
  rw[Ga,<-AR];exact(Char.fold h svc S k).step svc (S k)
theorem Ts:Char [] []:=⟨λ_ _ _ h=>by simp at h,λi hi=>by simp at hi,λi hi=>by simp at hi,λe he=>by simp at he⟩
theorem FD{n:Nat->Nat}{S:Nat->Nat->PSeen}:∀i,Char (Cr n S i) (DZ n S i)
 | 0=>Ts
 | i+1=>(FD i).fold (i:Int) (S i) (n i)
theorem Ia{E:List (Int × PSeen)}{svc:Int}{S:Nat->PSeen}:∀{k},OI (E++EO svc S k)->OI E
 | 0,h=>by simpa[EO] using h
 | k+1,h=>by
  rw[Ga,<-AR]at h;exact Ia (Nr h)
theorem Char.errs{L:List PPart}{E:List (Int × PSeen)}(h:Char L E)(b:OI E)(svc:Int)(S:Nat->PSeen):∀k,(∀j,j<k->Gm (Dh svc L S j) (S j)=0)↔OI (E++EO svc S k)
 | 0=>by
  refine⟨λ_=>by simpa[EO] using b,λ_ j a=>absurd a (Ak _)⟩
 | k+1=>by
  have ih:=Char.errs h b svc S k;rw[Ga,<-AR];constructor
  ·intro hh
   have h1:=ih.1 λj a=>hh j (by omega);exact((h.fold svc S k).err h1 svc (S k)).1 (hh k (by omega))
  ·intro hh j a
   have h1:=Nr hh
   by_cases e:j<k
   ·exact ih.2 h1 j e
   ·have:j=k:=by omega
    subst this;exact((h.fold svc S j).err h1 svc (S j)).2 hh
theorem JF{n:Nat}{g:Nat->Int}:(CA n g).1=0 ↔ ∀j,j<n->g j=0:=by
 rcases FC n g with⟨e,h⟩|⟨k,hk,e,a,-⟩
 ·rw[e];exact⟨λ_=>h,λ_=>rfl⟩
 ·rw[e];exact⟨λh=>absurd h a,λh=>absurd (h k hk) a⟩
theorem OH{n:Nat->Nat}{S:Nat->Nat->PSeen}:∀i,(∀j,j<i->Gw n S j=0)↔OI (DZ n S i)
 | 0=>⟨λ_=>TR,λ_ j a=>absurd a (Ak _)⟩
 | i+1=>by
  have ih:=OH (n:=n) (S:=S) i;constructor
  ·intro h
   have h1:=ih.1 λj a=>h j (by omega);have h2:=h i (by omega);unfold Gw I3 at h2;exact((FD i).errs h1 (i:Int) (S i) (n i)).1 (JF.1 h2)
  ·intro h j a
   have h1:=Ia h
   by_cases e:j<i
   ·exact ih.2 h1 j e
   ·have:j=i:=by omega
    subst this;unfold Gw I3;exact JF.2 (((FD j).errs h1 (j:Int) (S j) (n j)).2 h)
theorem FE{n:Nat->Nat}{S:Nat->Nat->PSeen}{e:Int × PSeen}:∀{i},e∈DZ n S i ↔ ∃q j,q<i/\j<n q/\e=((q:Int),S q j)
 | 0=>by simp[DZ]
 | i+1=>by
  unfold DZ;rw[List.mem_append,FE (i:=i)];unfold EO;constructor
  ·rintro(⟨q,j,h1,h2,h3⟩|h)
   ·exact⟨q,j,by omega,h2,h3⟩
   ·obtain⟨j,a,rfl⟩:=List.mem_map.1 h
    exact⟨i,j,by omega,by simpa using a,rfl⟩
  ·rintro⟨q,j,h1,h2,h3⟩
   by_cases e:q<i
   ·exact .inl ⟨q,j,e,h2,h3⟩
   ·have:q=i:=by omega
    subst this;exact .inr (List.mem_map.2 ⟨j,by simpa using h2,h3.symm⟩)
theorem J8{nm:ByteArray}{E:List (Int × PSeen)}{x:LField × POwner}:x∈PL nm E ↔ ∃e∈E,e.2.name=nm/\∃q,q<e.2.nf/\x=(e.2.F q,⟨e.1,e.2.own,e.2.O q⟩):=by
 unfold PL;rw[List.mem_flatMap];constructor
 ·rintro⟨e,he,hx⟩
  unfold Ht at he;rw[BL]at he;obtain⟨q,hq,rfl⟩:=List.mem_map.1 hx;exact⟨e,he.1,Ch.1 he.2,q,by simpa using hq,rfl⟩
 ·rintro⟨e,he,hn,q,hq,rfl⟩
  exact⟨e,List.mem_filter.2 ⟨he,Ch.2 hn⟩,List.mem_map.2 ⟨q,by simpa using hq,rfl⟩⟩
theorem LM{l:List LField}(h:(l.map (·.name)).Nodup){k:Nat}(hk:k<l.length):BX l.length (λj=>l.getD j dF) (l.getD k dF).name=(k:Int):=by
 refine DD hk (Ch.2 rfl) λj b=>Db.2 λe=>?_;have a:=List.pairwise_iff_getElem.1 h j k (by simpa using by omega) (by simpa using hk) b;simp only[List.getElem_map]at a;apply a;simpa[List.getD,hk,show j<l.length by omega] using e
structure PartRight (n:Nat) (V:Nat->LServ) (L:List PPart) (p:PPart):Prop where
 olen:p.os.length=p.fs.length
 hlen:p.hs.length≠0
 self:∀k,k<p.fs.length->BX p.fs.length (De p) (De p k).name=(k:Int)
 find:∀k,k<p.fs.length->(De p k).kind≠1->¬Fd L (De p k).type<0
 own:∀k,k<p.fs.length->∃s j q:Nat,s<n/\(D1 p k).svc=(s:Int)/\j<(V s).nt/\(B7 (V s) j).own=(D1 p k).type/\(B7 (V s) j).name=p.name/\(∀j',j' < (V s).nt->(B7 (V s) j').name=p.name->j'=j)/\BX (B7 (V s) j).nf (B7 (V s) j).F (De p k).name=(q:Int)/\q<(B7 (V s) j).nf/\(B7 (V s) j).O q=(D1 p k).field
theorem Qx(nm:ByteArray)(E:List (Int × PSeen))(k:Nat)(hk:k<(PL nm E).length):De (EL nm E) k=((PL nm E)[k]).1/\D1 (EL nm E) k=((PL nm E)[k]).2:=by
 unfold De D1 EL;simp[List.getD,hk]
theorem Ms(nm:ByteArray)(E:List (Int × PSeen)):(EL nm E).fs.length=(PL nm E).length/\(EL nm E).os.length=(PL nm E).length:=by unfold EL;simp
theorem Fs{n:Nat}{V:Nat->LServ}(h0:(DT n V).1=0):n<=5/\(∀j,j<n->(JV (V j)).1=0)/\OI (DZ (CQ V) (BZ V) n)/\∀i,i<(Cr (CQ V) (BZ V) n).length->PartRight n V (Cr (CQ V) (BZ V) n) (Ci (Cr (CQ V) (BZ V) n) i):=by
 have D:(DE n V).1=0:=by
  unfold DT at h0
  by_cases h:(DE n V).1≠0
  ·rw[Af h]at h0;exact h0
  ·exact Decidable.not_not.1 h
 obtain⟨hn,c⟩:=E5 D;have d:∀j,j<n->(JV (V j)).1=0:=λj g=>(c j g).1;have hf:(CA n (Gw (CQ V) (BZ V))).1=0:=by
  unfold DT at h0;rw[Ae (λh=>h D)]at h0;exact h0
 have E:OI (DZ (CQ V) (BZ V) n):=(OH n).1 (Ey.1 hf);have v:Char (Cr (CQ V) (BZ V) n) (DZ (CQ V) (BZ V) n):=FD n;have l:∀j,j<n->DB (V j).nt (B7 (V j)):=λj g=>D2 (Dn (d j g)) (V j).nc;refine⟨hn,d,E,λi hi=>?_⟩;have G:=v.part i hi;have hs:=v.some i hi;generalize (Ci (Cr (CQ V) (BZ V) n) i).name=nm at G hs;rw[G];obtain⟨l1,l2⟩:=Ms nm (DZ (CQ V) (BZ V) n);have o:((EL nm (DZ (CQ V) (BZ V) n)).fs.map (·.name)).Nodup:=by
  have:=E nm;unfold EL;simpa[Function.comp_def] using this
 have b:∀k,k<(EL nm (DZ (CQ V) (BZ V) n)).fs.length->∃s j q:Nat,s<n/\j<(V s).nt/\(B7 (V s) j).name=nm/\q<(B7 (V s) j).nf/\De (EL nm (DZ (CQ V) (BZ V) n)) k=(B7 (V s) j).F q/\D1 (EL nm (DZ (CQ V) (BZ V) n)) k=⟨(s:Int),(B7 (V s) j).own,(B7 (V s) j).O q⟩:=λk hk=>by
  rw[l1]at hk;obtain⟨e1,e2⟩:=Qx nm _ k hk;obtain⟨e,he,w,q,hq,hx⟩:=J8.1 (AW hk);obtain⟨s,j,hs,g,rfl⟩:=FE.1 he;exact⟨s,j,q,hs,g,w,hq,by rw[e1,hx];rfl,by rw[e2,hx];rfl⟩
 refine⟨by rw[l1,l2],λh=>hs (by simpa[EL] using h),λk hk=>LM o hk,λk hk a=>?_,λk hk=>?_⟩
 ·obtain⟨s,j,q,h1,h2,h3,h4,e1,-⟩:=b k hk
  rw[e1]at a ⊢;have p:=((l s h1).fld j h2).fit q h4;rcases p with⟨I,-⟩|⟨-,H,x,e⟩
  ·exact absurd I a
  ·obtain⟨J,y,u⟩:=v.has ((s:Int),B7 (V s) H) (FE.2 ⟨s,H,h1,x,rfl⟩)
   intro r;have:=Dq.1 r J y;exact Db.1 this (u.trans e)
 ·obtain⟨s,j,q,h1,h2,h3,h4,e1,e2⟩:=b k hk
  have z:=l s h1;have A:BX (B7 (V s) j).nf (B7 (V s) j).F ((B7 (V s) j).F q).name=(q:Int):=DD h4 (Ch.2 rfl) λm K=>Db.2 λe=>(z.fld j h2).one m q K h4 e;refine⟨s,j,q,h1,by rw[e2],h2,by rw[e2],h3,λB C u=>?_,by rw[e1];exact A,h4,by rw[e2]⟩;rcases Nat.lt_trichotomy B j with h|h|h
  ·exact absurd (u.trans h3.symm) (z.one B j h h2)
  ·exact h
  ·exact absurd (h3.trans u.symm) (z.one j B h C)
end Go.Proofs.YtjjggefmmeminabGreat
namespace Go.Proofs.YtjjggefmmeminabGreat
open Go.RowKit Go.Sort Go.PlainAid
theorem JW{nm:ByteArray}{E:List (Int × PSeen)}{e:Int × PSeen}:e∈Ht nm E↔e∈E/\e.2.name=nm:=by
 unfold Ht;rw[BL,Ch]
theorem G0{L:List PPart}{E:List (Int × PSeen)}(a:Char L E){nm:ByteArray}(h : ¬Ca L.length (DI L) nm<0):Du L nm=EL nm E:=by
 obtain⟨h1,h2⟩:=E4 (p:=λi=>eqs (Ci L i).name nm) h;unfold Du;have:=a.part _ h1;rw[Ch.1 h2]at this;exact this
theorem Vc{E:List (Int × PSeen)}(a:OI E)(nm:ByteArray):((EL nm E).fs.map (·.name)).Nodup:=by
 have:=a nm;unfold EL;simpa[Function.comp_def] using this
theorem IZ{E:List (Int × PSeen)}(b:OI E){nm:ByteArray}{x:LField × POwner}(hx:x∈PL nm E) : ¬BX (EL nm E).fs.length (De (EL nm E)) x.1.name<0/\EQ (EL nm E) x.1.name=x.1/\Dd (EL nm E) x.1.name=x.2:=by
 obtain⟨k,hk,rfl⟩:=Bl hx;obtain⟨e1,e2⟩:=Qx nm E k hk;obtain⟨l1,-⟩:=Ms nm E;have hi:=LM (Vc b nm) (k:=k) (by rw[l1];exact hk);have a:BX (EL nm E).fs.length (De (EL nm E)) (De (EL nm E) k).name=(k:Int):=hi;rw[e1]at a;unfold EQ Dd;rw[a,Ax];exact⟨by omega,e1,e2⟩
theorem I7{E:List (Int × PSeen)}(b:OI E)(nm f:ByteArray) : ¬BX (EL nm E).fs.length (De (EL nm E)) f<0 ↔ ∃x∈PL nm E,x.1.name=f:=by
 constructor
 ·intro h
  obtain⟨h1,h2⟩:=E4 (p:=λi=>eqs (De (EL nm E) i).name f) h;obtain⟨l1,-⟩:=Ms nm E;generalize (Ds (EL nm E).fs.length λi=>eqs (De (EL nm E) i).name f).toNat=k at h1 h2;have a:k<(PL nm E).length:=by rw[<-l1];exact h1
  obtain⟨e1,-⟩:=Qx nm E k a;exact⟨_,AW a,by rw[<-e1];exact Ch.1 h2⟩
 ·rintro⟨x,hx,rfl⟩
  exact(IZ b hx).1
theorem RD{n:Nat}{V:Nat->LServ}(h0:(DT n V).1=0):∀q,q∈Cr (CQ V) (BZ V) n->∀j,j<q.fs.length->(De q j).kind=1\/(De q j).kind=2\/(De q j).kind=3:=λq hq j a=>by
 obtain⟨hn,b,-,-⟩:=Fs h0;have g:Char (Cr (CQ V) (BZ V) n) (DZ (CQ V) (BZ V) n):=FD n;obtain⟨i,hi,rfl⟩:=Bl hq;have d:=g.part i hi;rw[QB hi]at d;rw[d]at a ⊢;generalize ((Cr (CQ V) (BZ V) n)[i]).name=nm at a ⊢;rw[(Ms nm _).1]at a;rw[(Qx nm _ j a).1];obtain⟨e,he,-,k,hk,hx⟩:=J8.1 (AW a);obtain⟨s,t,hs,l,rfl⟩:=FE.1 he;rw[hx];have c:DB (V s).nt (B7 (V s)):=D2 (Dn (b s hs)) (V s).nc;rcases (c.fld t l).fit k hk with⟨h,-⟩|⟨h,-⟩
 ·exact .inl h
 ·exact .inr h
def Uq (T:Nat->LType) (S:Nat->PSeen):Prop := ∀i q,q<(S i).nf->∃m,m<(T i).nf/\(S i).O q=((T i).F m).name/\((S i).F q).kind=((T i).F m).kind
theorem TE{T:Nat->LType}{n:Nat}{S:Nat->PSeen}{c:PChange}(h:Uq T S):Uq T (EF n S c).2:=by
 intro i q;unfold EF;split
 ·exact h i q
 split
 ·exact h i q
 split
 ·unfold EE
  split
  ·exact h i q
  ·intro hq
   obtain⟨m,b,e1,e2⟩:=h i q hq;refine⟨m,b,e1,?_⟩;rw[<-e2];show (Ed _ _ ((S i).F q)).kind=_;unfold Ed;split<;>rfl
 ·unfold FH
  split
  ·exact h i q
  split
  ·unfold Et
   split
   ·exact h i q
   ·intro hq
    obtain⟨m,b,e1,e2⟩:=h i q hq;refine⟨m,b,e1,?_⟩;rw[<-e2];show ((if i=(pfind n S c.type).toNat then _ else (S i).F) q).kind=_
    split
    ·rename_i e
     show (if q=_ then _ else (S (pfind n S c.type).toNat).F q).kind=_
     rw[<-e];split<;>rfl
    ·rfl
  ·intro hq
   have a:q<(DO S (pfind n S c.type).toNat (BX (S (pfind n S c.type).toNat).nf (S (pfind n S c.type).toNat).F c.field).toNat i).nf:=hq;show ∃m,m<(T i).nf/\(DO S (pfind n S c.type).toNat (BX (S (pfind n S c.type).toNat).nf (S (pfind n S c.type).toNat).F c.field).toNat i).O q=_/\((DO S (pfind n S c.type).toNat (BX (S (pfind n S c.type).toNat).nf (S (pfind n S c.type).toNat).F c.field).toNat i).F q).kind=_;generalize (pfind n S c.type).toNat=t at *;generalize (BX (S t).nf (S t).F c.field).toNat=f at *;unfold DO at a ⊢
   by_cases e:i=t
   ·subst e
    rw[Af rfl]at a ⊢;have d:q<(S i).nf - 1:=a;refine h i (skip f q) ?_;unfold skip;split<;>omega
   ·rw[Ae e]at a ⊢
    exact h i q a
theorem M1{T:Nat->LType}{n:Nat}{C:Nat->PChange}:∀k,Uq T (Hu n (DK T) C k)
 | 0=>λ_ q hq=>⟨q,hq,rfl,rfl⟩
 | k+1=>TE (M1 k)
theorem KW{s:LServ}(a:(JV s).1=0){j:Nat}(d:j<s.nt):(B7 s j).own=(s.T j).name/\find s.nt s.T (B7 s j).own=(j:Int)/\∀q,q<(B7 s j).nf->¬BX (s.T j).nf (s.T j).F ((B7 s j).O q)<0:=by
 have b:=Dn a;have e:(B7 s j).own=(s.T j).name:=(Qm j s.nc).1;refine⟨e,?_,λq hq h=>?_⟩
 ·rw[e]
  refine DD d (Ch.2 rfl) λi hi=>Db.2 ?_;exact b.one i j hi d
 ·obtain⟨m,g,e2,-⟩:=M1 (T:=s.T) s.nc j q hq
  have c:(B7 s j).O q=((s.T j).F m).name:=e2;have:=Dq.1 h m g;rw[c,Ch.2 rfl]at this;cases this
theorem RE{s:ByteArray}(h:s.size=0):s=⟨#[]⟩:=by
 obtain⟨d⟩:=s;have a:d.size=0:=h;rw[Array.eq_empty_of_size_eq_zero a]
structure ValR (f:LField) (v:LVal):Prop where
 field:v.field=f.name
 word:f.kind=1->v.nk=0
 text:f.kind≠1->v.text=⟨#[]⟩
 one:f.kind=2->v.nk<=1
 few:v.nk<=20
 short:v.text.size<=40
 nam:∀i,i<v.nk->Cb (v.K i)=true
theorem Rk{f : LField}{v:LVal}(h:CK f v=0):ValR f v:=by
 unfold CK Gi at h
 by_cases h1:eqs v.field f.name=false
 ·rw[Af h1]at h;cases h
 rw[Ae h1]at h
 by_cases h2:(f.kind=1/\0<v.nk)\/(f.kind≠1/\v.text.size≠0)
 ·rw[Af h2]at h;cases h
 rw[Ae h2]at h
 by_cases h3:20<v.nk\/(f.kind=2/\1<v.nk)
 ·rw[Af h3]at h;cases h
 rw[Ae h3]at h
 by_cases h4:40<v.text.size
 ·rw[Af h4]at h;cases h
 rw[Ae h4]at h
 by_cases b:0<=Ds v.nk (λi => !Cb (v.K i))
 ·rw[Af b]at h;cases h
 refine⟨Ch.1 (by simpa using h1),λe=>?_,λe=>RE ?_,λe=>?_,by omega,by omega,λi hi=>?_⟩
 ·rcases Nat.eq_zero_or_pos v.nk with a|a
  ·exact a
  ·exact absurd (.inl ⟨e,a⟩) h2
 ·by_cases a:v.text.size=0
  ·exact a
  ·exact absurd (.inr ⟨e,a⟩) h2
 ·by_cases a:1<v.nk
  ·exact absurd (.inr ⟨e,a⟩) h3
  ·omega
 ·have c:Ds v.nk (λi => !Cb (v.K i))<0:=by omega
  have:=Dq.1 c i hi;simpa using this
structure ThingR (n:Nat) (T:Nat->LType) (x:LThing) (t:Nat):Prop where
 lt:t<n
 find:find n T x.type=(t:Int)
 nv:x.nv=(T t).nf
 vals:∀j,j<(T t).nf->ValR ((T t).F j) (x.V j)
theorem GX{n m:Nat}{T:Nat->LType}{X:Nat->LThing}(h:(Cu n T m X).1=0){i:Nat}(hi:i<m):m<=60/\(∃t,ThingR n T (X i) t)/\Cb (X i).key=true:=by
 unfold Cu at h
 by_cases a:60<m
 ·rw[Af a]at h;cases h
 rw[Ae a]at h;have h1:=Ey.1 h i hi;unfold Cv at h1
 by_cases h2:find n T (X i).type<0
 ·rw[Af h2]at h1;cases h1
 rw[Ae h2]at h1
 by_cases h3:(!Cb (X i).key||hasThing i X (X i).type (X i).key)=true
 ·rw[Af h3]at h1;cases h1
 rw[Ae h3]at h1
 by_cases h4:(X i).nv≠(T (find n T (X i).type).toNat).nf
 ·rw[Af h4]at h1;cases h1
 rw[Ae h4]at h1;have b:=Ey.1 h1;obtain⟨c,-⟩:=E4 (p:=λd=>eqs (T d).name (X i).type) h2;have hk:Cb (X i).key=true:=by
  cases hn:Cb (X i).key with
  |true=>rfl
  |false=>rw[hn]at h3;simp at h3
 refine⟨by omega,⟨(find n T (X i).type).toNat,c,?_,Decidable.not_not.1 h4,λj e=>Rk (b j e)⟩,hk⟩;omega
theorem O5{n:Nat}{T:Nat->LType}{x:LThing}{t : Nat}(h:ThingR n T x t)(k:∀a b,a<b->b<(T t).nf->((T t).F a).name≠((T t).F b).name){j:Nat}(i:j<(T t).nf):F8 x ((T t).F j).name=x.V j/\∀c,c<x.nv->(eqs (x.V c).field ((T t).F j).name=true↔c=j):=by
 have d:∀c,c<x.nv->(eqs (x.V c).field ((T t).F j).name=true↔c=j):=λc g=>by
  rw[Ch,(h.vals c (by rw[<-h.nv];exact g)).field];constructor
  ·intro e
   rw[h.nv]at g;rcases Nat.lt_trichotomy c j with h1|h1|h1
   ·exact absurd e (k c j h1 i)
   ·exact h1
   ·exact absurd e.symm (k j c h1 g)
  ·rintro rfl;rfl
 refine⟨?_,d⟩;have hi:Ds x.nv (λc=>eqs (x.V c).field ((T t).F j).name)=(j:Int):=by
  refine DD (by rw[h.nv];exact i) ((d j (by rw[h.nv];exact i)).2 rfl) λa ha=>?_;rw[Bool.eq_false_iff];intro e;have:=(d a (by rw[h.nv];omega)).1 e;omega
 unfold F8;rw[hi,Ae (by omega),Ax]
theorem Iz{s:LServ}{ty key:ByteArray}(h:Dk s ty key=true):∃i,i<s.nx/\Ds s.nx (Cf s.X ty key)=(i:Int)/\CC s ty key=s.X i/\(s.X i).type=ty/\(s.X i).key=key:=by
 unfold Dk at h;rw[decide_eq_true_iff]at h;rcases CE s.nx (Cf s.X ty key) with⟨h1,-⟩|⟨k,hk,h1,a,-⟩
 ·omega
 ·unfold Cf at a
  rw[Bn,Ch,Ch]at a;refine⟨k,hk,h1,?_,a.1,a.2⟩;unfold CC;rw[h1,Ax]
theorem TI{n:Nat}{V:Nat->LServ}(h0:(DT n V).1=0){nm f key:ByteArray}(hf : ¬BX (EL nm (DZ (CQ V) (BZ V) n)).fs.length (De (EL nm (DZ (CQ V) (BZ V) n))) f<0) :
  ∃s:Nat,s<n/\(Dd (EL nm (DZ (CQ V) (BZ V) n)) f).svc=(s:Int)/\(Dk (V s) (Dd (EL nm (DZ (CQ V) (BZ V) n)) f).type key=true->∃m,m<(CC (V s) (Dd (EL nm (DZ (CQ V) (BZ V) n)) f).type key).nv/\F8 (CC (V s) (Dd (EL nm (DZ (CQ V) (BZ V) n)) f).type key) (Dd (EL nm (DZ (CQ V) (BZ V) n)) f).field=(CC (V s) (Dd (EL nm (DZ (CQ V) (BZ V) n)) f).type key).V m /\
   (∀c,c<(CC (V s) (Dd (EL nm (DZ (CQ V) (BZ V) n)) f).type key).nv->(eqs ((CC (V s) (Dd (EL nm (DZ (CQ V) (BZ V) n)) f).type key).V c).field (Dd (EL nm (DZ (CQ V) (BZ V) n)) f).field=true↔c=m)) /\
   ∃g:LField,g.kind=(EQ (EL nm (DZ (CQ V) (BZ V) n)) f).kind/\ValR g ((CC (V s) (Dd (EL nm (DZ (CQ V) (BZ V) n)) f).type key).V m)):=by
 have B:(DE n V).1=0:=by
  unfold DT at h0
  by_cases h:(DE n V).1≠0
  ·rw[Af h]at h0;exact h0
  ·exact Decidable.not_not.1 h
 obtain⟨-,d⟩:=E5 B;obtain⟨-,k,A,-⟩:=Fs h0;obtain⟨x,hx,rfl⟩:=(I7 A nm f).1 hf;obtain⟨-,D,E⟩:=IZ A hx;rw[D,E];obtain⟨e,he,hn,q,hq,rfl⟩:=J8.1 hx;obtain⟨s,j,hs,G,rfl⟩:=FE.1 he;refine⟨s,hs,rfl,λhh=>?_⟩;have l:j<(V s).nt:=G;have p:q<(B7 (V s) j).nf:=hq;have r:Dk (V s) (B7 (V s) j).own key=true:=hh;show ∃m,m<(CC (V s) (B7 (V s) j).own key).nv/\F8 (CC (V s) (B7 (V s) j).own key) ((B7 (V s) j).O q)=(CC (V s) (B7 (V s) j).own key).V m/\(∀c,c<(CC (V s) (B7 (V s) j).own key).nv->(eqs ((CC (V s) (B7 (V s) j).own key).V c).field ((B7 (V s) j).O q)=true↔c=m))/\∃g:LField,g.kind=((B7 (V s) j).F q).kind/\ValR g ((CC (V s) (B7 (V s) j).own key).V m);obtain⟨i,hi,-,H,u,-⟩:=Iz r;obtain⟨K,o2,-⟩:=KW (k s hs) l;obtain⟨-,⟨t,o⟩,-⟩:=GX (d s hs).2 hi;have v:t=j:=by
  have h1:=o.find;rw[u,o2]at h1;omega
 subst v;obtain⟨m,w,e1,e2⟩:=M1 (T:=(V s).T) (n:=(V s).nt) (C:=(V s).C) (V s).nc t q p;have y:(B7 (V s) t).O q=(((V s).T t).F m).name:=e1;have z:=Dn (k s hs);obtain⟨I,J⟩:=O5 o (λa b h1 h2=>(z.fld t l).one a b h1 h2) w;rw[H,y];exact⟨m,by rw[o.nv];exact w,I,J,((V s).T t).F m,e2.symm,o.vals m w⟩
structure PartR (n:Nat) (V:Nat->LServ) (p:PPart):Prop where
 os:p.os.length=p.fs.length
 homes:∀j,j<p.hs.length->∃s:Nat,(Eg p j).svc=(s:Int)/\s<n
 owner:∀f,¬BX p.fs.length (De p) f<0->∃s:Nat,s<n/\(Dd p f).svc=(s:Int)/\∀key,Dk (V s) (Dd p f).type key=true->∃m,m<(CC (V s) (Dd p f).type key).nv/\F8 (CC (V s) (Dd p f).type key) (Dd p f).field=(CC (V s) (Dd p f).type key).V m /\
   (∀m',m' < (CC (V s) (Dd p f).type key).nv->(eqs ((CC (V s) (Dd p f).type key).V m').field (Dd p f).field=true↔m'=m))/\∃g:LField,g.kind=(EQ p f).kind/\ValR g ((CC (V s) (Dd p f).type key).V m)
theorem S4{n:Nat}{V:Nat->LServ}(h0:(DT n V).1=0){nm:ByteArray}(h : ¬Ca (Cr (CQ V) (BZ V) n).length (DI (Cr (CQ V) (BZ V) n)) nm<0):PartR n V (Du (Cr (CQ V) (BZ V) n) nm):=by
 have g:Char (Cr (CQ V) (BZ V) n) (DZ (CQ V) (BZ V) n):=FD n;rw[G0 g h];refine⟨by simp[EL],λj k=>?_,λf hf=>?_⟩
 ·have a:j<((Ht nm (DZ (CQ V) (BZ V) n)).map Hi).length:=k
  have e:Eg (EL nm (DZ (CQ V) (BZ V) n)) j=((Ht nm (DZ (CQ V) (BZ V) n)).map Hi)[j]:=by
   show ((Ht nm (DZ (CQ V) (BZ V) n)).map Hi).getD j dO=_;rw[AT,AU a];rfl
  have c:((Ht nm (DZ (CQ V) (BZ V) n)).map Hi)[j]∈(Ht nm (DZ (CQ V) (BZ V) n)).map Hi:=AW a;rw[<-e]at c;obtain⟨x,hx,l⟩:=List.mem_map.1 c;obtain⟨q,i,hq,-,rfl⟩:=FE.1 (JW.1 hx).1;exact⟨q,by rw[<-l];rfl,hq⟩
 ·have ho:=λkey=>TI h0 (key:=key) hf
  obtain⟨s,hs,d,-⟩:=ho ⟨#[]⟩;refine⟨s,hs,d,λkey hk=>?_⟩;obtain⟨m,-,b,o⟩:=ho key;have:m=s:=by rw[d]at b;omega
  subst this;exact o hk
theorem GO{n:Nat}{V:Nat->LServ}(h0:(DT n V).1=0):(DE n V).1=0:=by
 unfold DT at h0
 by_cases h:(DE n V).1≠0
 ·rw[Af h]at h0;exact h0
 ·exact Decidable.not_not.1 h
def Sm:(d:Nat)->List (Cg d)->Prop
 | 0,_=>True
 | d+1,L=>L.length<=60/\∀i,i<L.length->Sm d (subs (BS L i))
theorem OF{α:Type}{f : Nat->α->Int × Nat}(hf:∀n p,(f n p).1=0->n+1<=(f n p).2):∀(L:List α) (n:Nat),(Jg f n L).1=0->n+L.length<=(Jg f n L).2
 | [],n,_=>Aj _
 | p :: L,n,h=>by
  rw[Jg]at h ⊢
  by_cases h0:(f n p).1=0
  ·rw[Ae (by simp[h0])]at h ⊢
   have h1:=hf n p h0;have h2:=OF hf L _ h;rw[AP];omega
  ·rw[Af h0]at h;exact absurd h h0
theorem LD{α:Type}{f : Nat->α->Int × Nat} : ∀(L:List α) (n:Nat),(Jg f n L).1=0->∀(i:Nat) (h:i<L.length),∃a,(f a L[i]).1=0
 | [],_,_,i,h=>absurd h (Ak _)
 | p :: L,n,h0,i,h=>by
  rw[Jg]at h0
  by_cases h1:(f n p).1=0
  ·rw[Ae (by simp[h1])]at h0
   cases i with
   |zero=>exact⟨n,h1⟩
   |succ i=>exact LD L _ h0 i (by simpa using h)
  ·rw[Af h1]at h0;exact absurd h0 h1
theorem Un(d deep n:Nat)(p:Cg (d+1))(h:(wP d deep n p).1=0):n+1<=(wP d deep n p).2:=by
 unfold wP wL at h ⊢
 by_cases h1:60<n+1
 ·rw[Af h1]at h;cases h
 rw[Ae h1]at h ⊢
 by_cases h2:Dp p=true
 ·rw[Af h2]at h;cases h
 rw[Ae h2]at h ⊢
 by_cases h3:(subs p).isEmpty=true
 ·rw[Af h3];exact Aj _
 rw[Ae h3]at h ⊢
 by_cases h4:8<deep+1
 ·rw[Af h4]at h;cases h
 rw[Ae h4,Ae h3]at h ⊢;exact NJ d (deep+1) (n+1) (subs p) h
theorem T6:∀(d deep n:Nat) (L:List (Cg d)),n<=60->(wR d deep n L).1=0->Sm d L
 | 0,_,_,_,_,_=>trivial
 | d+1,deep,n,L,hn,h=>by
  have b:=(QC (d+1) deep n L hn).2 h;rw[IP]at h b;have c:=OF (Un d deep) L n h;refine⟨by omega,λi hi=>?_⟩;obtain⟨e,a⟩:=LD L n h i hi;rw[<-CL hi]at a;generalize BS L i=p at *;unfold wP wL at a
  by_cases h1:60<e+1
  ·rw[Af h1]at a;cases a
  rw[Ae h1]at a
  by_cases h2:Dp p=true
  ·rw[Af h2]at a;cases a
  rw[Ae h2]at a
  by_cases h3:(subs p).isEmpty=true
  ·rw[List.isEmpty_iff.1 h3]
   cases d with
   |zero=>trivial
   |succ d=>exact⟨Ai _,λi hi=>absurd hi (Ak _)⟩
  rw[Ae h3]at a
  by_cases h4:8<deep+1
  ·rw[Af h4]at a;cases a
  rw[Ae h4,Ae h3]at a;exact T6 d (deep+1) (e+1) (subs p) (by omega) a
theorem SR{d:Nat}{type key:ByteArray}{L:List (Cg d)}(h:wA d type key L=0):Sm d L/\0<L.length:=by
 unfold wA at h
 by_cases hn:(!Cb type || !Cb key)=true
 ·rw[Af hn]at h;cases h
 rw[Ae hn]at h;unfold wL at h;rw[Ae (by omega)]at h
 by_cases he:L.isEmpty=true
 ·rw[Af he]at h;cases h
 rw[Ae he]at h;refine⟨T6 d 1 0 L (by omega) h,?_⟩;rcases Nat.eq_zero_or_pos L.length with h0|h0
 ·exact absurd (by rw[AC h0];rfl) he
 ·exact h0
theorem Qp{n:Nat}{P:Nat->LPart}{d:Nat}{type key:ByteArray}{L:List (Cg d)}(h:cA n P d type key L=0):wA d type key L=0/\¬Ca n P type<0/\cR n P d (P (Ca n P type).toNat).nf (P (Ca n P type).toNat).F [] L=0:=by
 unfold cA at h
 by_cases h0:wA d type key L=0
 ·rw[Ae (by simp[h0])]at h
  unfold cL at h
  by_cases h1:Ca n P type<0
  ·rw[Af h1]at h;cases h
  ·rw[Ae h1]at h;exact⟨h0,h1,h⟩
 ·rw[Af h0]at h;exact absurd h h0
end Go.Proofs.YtjjggefmmeminabGreat
