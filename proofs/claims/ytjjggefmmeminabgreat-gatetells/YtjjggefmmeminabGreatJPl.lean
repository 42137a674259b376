import Derived.Test.YtjjggefmmeminabGreatJWr
import Derived.Lib.Bytealg
namespace Go.Proofs.YtjjggefmmeminabGreat
theorem NU{n:Nat}{T:Nat->LType}:(CD n T).1=0↔n<=8/\(∀i,i<n->B6 T i=0)/\∀i,i<n->Ct n T (T i).nf (T i).F=0:=by
 unfold CD
 by_cases h1:8<n
 ·rw[Af h1]
  exact⟨λh=>by simp at h,λh=>by omega⟩
 ·rw[Ae h1]
  by_cases h2:(CA n (B6 T)).1≠0
  ·rw[Af h2]
   exact⟨λh=>absurd h h2,λh=>absurd (Ey.2 h.2.1) h2⟩
  ·rw[Ae h2,Ey]
   have a:=Ey.1 (Decidable.not_not.1 h2);exact⟨λh=>⟨by omega,a,h⟩,λh=>h.2.2⟩
end Go.Proofs.YtjjggefmmeminabGreat
namespace Go.Proofs.YtjjggefmmeminabGreat
open Go.RowKit Go.Sort
structure PChange where
 kind:Int
 type:ByteArray
 field:ByteArray
 to:ByteArray
def L6 (S:Nat->PSeen) (t:Nat) (to:ByteArray):Nat->PSeen:=λi => { S i with name:=if i=t then to else (S i).name,F:=λj=>Ed (S t).name to ((S i).F j) }
def LW (S:Nat->PSeen) (t f:Nat) (to:ByteArray):Nat->PSeen:=λi => { S i with F:=if i=t then (λj=>if j=f then { (S t).F j with name:=to } else (S t).F j) else (S i).F }
def skip (f j:Nat):Nat:=if j<f then j else j+1
def DO (S:Nat->PSeen) (t f:Nat):Nat->PSeen:=λi=>if i=t then { S t with nf:=(S t).nf - 1,F:=λj=>(S t).F (skip f j),O:=λj=>(S t).O (skip f j) } else S i
def EE (n:Nat) (S:Nat->PSeen) (t:Nat) (to:ByteArray):Int × (Nat->PSeen):=if !Cb to||decide (0<=pfind n S to) then (6,S) else (0,L6 S t to)
def Et (S:Nat->PSeen) (t f:Nat) (to:ByteArray):Int × (Nat->PSeen):=if !Cb to||decide (0<=BX (S t).nf (S t).F to) then (6,S) else (0,LW S t f to)
def FH (S:Nat->PSeen) (t:Nat) (c:PChange):Int × (Nat->PSeen) :=
 if BX (S t).nf (S t).F c.field<0 then (5,S) else if c.kind=2 then Et S t (BX (S t).nf (S t).F c.field).toNat c.to else (0,DO S t (BX (S t).nf (S t).F c.field).toNat)
def EF (n:Nat) (S:Nat->PSeen) (c:PChange):Int × (Nat->PSeen) :=
 if c.kind≠1/\c.kind≠2/\c.kind≠3 then (1,S) else if pfind n S c.type<0 then (5,S) else if c.kind=1 then EE n S (pfind n S c.type).toNat c.to else FH S (pfind n S c.type).toNat c
def Hu (n:Nat) (S:Nat->PSeen) (C:Nat->PChange):Nat->(Nat->PSeen)
 | 0=>S
 | k+1=>(EF n (Hu n S C k) (C k)).2
def O4 (n:Nat) (S:Nat->PSeen) (C:Nat->PChange) (k:Nat):Int:=(EF n (Hu n S C k) (C k)).1
def DK (T:Nat->LType):Nat->PSeen:=λi=>⟨(T i).name,(T i).nf,(T i).F,(T i).name,λj=>((T i).F j).name⟩
def EZ (n:Nat) (T:Nat->LType) (m:Nat) (C:Nat->PChange):Int × Int:=if (CD n T).1≠0 then CD n T else if 12<m then (4,0) else CA m (O4 n (DK T) C)
def QY (n:Nat) (N:Nat->ByteArray) (f:LField):Prop:=(f.kind=1/\f.type.size=0)\/((f.kind=2\/f.kind=3)/\∃i,i<n/\N i=f.type)
structure RightF (n:Nat) (N:Nat->ByteArray) (nf:Nat) (F:Nat->LField):Prop where
 few:nf<=10
 nam:∀j,j<nf->Cb (F j).name=true
 one:∀i j,i<j->j<nf->(F i).name≠(F j).name
 fit:∀j,j<nf->QY n N (F j)
structure RightQ (n:Nat) (N:Nat->ByteArray) (nf:Nat->Nat) (F:Nat->Nat->LField):Prop where
 few:n<=8
 nam:∀i,i<n->Cb (N i)=true
 one:∀i j,i<j->j<n->N i≠N j
 fld:∀i,i<n->RightF n N (nf i) (F i)
theorem Db{a b:ByteArray}:eqs a b=false↔a≠b:=by
 rw[<-Bool.not_eq_true,Ch]
theorem Gp{T:Nat->LType}{i:Nat}:B6 T i=0↔Cb (T i).name=true/\∀j,j<i->(T j).name≠(T i).name:=by
 unfold B6 find;have h2:(0<=Ds i (λj=>eqs (T j).name (T i).name)) ↔ ¬ ∀j,j<i->(T j).name≠(T i).name:=by
  constructor
  ·intro h hh
   have:Ds i (λj=>eqs (T j).name (T i).name)<0:=Dq.2 λj a=>Db.2 (hh j a);omega
  ·intro h
   by_cases h0:Ds i (λj=>eqs (T j).name (T i).name)<0
   ·exact absurd (λj a=>Db.1 (Dq.1 h0 j a)) h
   ·omega
 cases h1:Cb (T i).name
 ·simp
 ·by_cases h0:0<=Ds i (λj=>eqs (T j).name (T i).name)
  ·simp only[h0]
   constructor
   ·intro h;simp at h
   ·intro h;exact absurd h.2 (h2.1 h0)
  ·simp only[h0]
   constructor
   ·intro _;exact⟨AM,Classical.byContradiction λhh=>h0 (h2.2 hh)⟩
   ·intro _;simp
theorem OB{n:Nat}{T:Nat->LType}{f : LField} : Gu f.kind f.type (find n T f.type)=0↔QY n (λi=>(T i).name) f:=by
 have hf : ¬find n T f.type<0 ↔ ∃i,i<n/\(T i).name=f.type:=by
  unfold find;rcases CE n (λi=>eqs (T i).name f.type) with⟨e,h⟩|⟨k,hk,e,h1,h2⟩
  ·rw[e]
   exact⟨λh0=>absurd (by decide) h0,λ⟨i,hi,he⟩=>absurd he (Db.1 (h i hi))⟩
  ·rw[e]
   exact⟨λ_=>⟨k,hk,Ch.1 h1⟩,λ_=>by omega⟩
 unfold Gu QY
 by_cases h1:f.kind=1
 ·rw[Af h1]
  by_cases h2:f.type.size=0
  ·rw[Af h2];exact⟨λ_=>.inl ⟨h1,h2⟩,λ_=>rfl⟩
  ·rw[Ae h2]
   exact⟨λh=>by simp at h,λh=>by rcases h with⟨_,h⟩|⟨h,_⟩<;>omega⟩
 ·rw[Ae h1]
  by_cases h2:f.kind=2\/f.kind=3
  ·rw[Af h2]
   by_cases h3:find n T f.type<0
   ·rw[Af h3]
    exact⟨λh=>by simp at h,λh=>by
     rcases h with⟨h,_⟩|⟨_,h⟩
     ·exact absurd h h1
     ·exact absurd h3 (hf.2 h)⟩
   ·rw[Ae h3]
    exact⟨λ_=>.inr ⟨h2,hf.1 h3⟩,λ_=>rfl⟩
  ·rw[Ae h2]
   exact⟨λh=>by simp at h,λh=>by
    rcases h with⟨h,_⟩|⟨h,_⟩
    ·exact absurd h h1
    ·exact absurd h h2⟩
theorem GD{n:Nat}{T:Nat->LType}{F:Nat->LField}{j:Nat}:Cm n T F j=0↔Cb (F j).name=true/\(∀i,i<j->(F i).name≠(F j).name)/\QY n (λi=>(T i).name) (F j):=by
 unfold Cm BX;have h2:(0<=Ds j (λi=>eqs (F i).name (F j).name)) ↔ ¬ ∀i,i<j->(F i).name≠(F j).name:=by
  constructor
  ·intro h hh
   have:Ds j (λi=>eqs (F i).name (F j).name)<0:=Dq.2 λi hi=>Db.2 (hh i hi);omega
  ·intro h
   by_cases h0:Ds j (λi=>eqs (F i).name (F j).name)<0
   ·exact absurd (λi hi=>Db.1 (Dq.1 h0 i hi)) h
   ·omega
 cases h1:Cb (F j).name
 ·simp
 ·by_cases h0:0<=Ds j (λi=>eqs (F i).name (F j).name)
  ·simp only[h0]
   constructor
   ·intro h;simp at h
   ·intro h;exact absurd h.2.1 (h2.1 h0)
  ·simp only[h0]
   have h3:∀i,i<j->(F i).name≠(F j).name:=Classical.byContradiction λhh=>h0 (h2.2 hh);constructor
   ·intro h;exact⟨AM,h3,OB.1 (by simpa using h)⟩
   ·intro h;have:=OB.2 h.2.2;simpa using this
theorem JA{n nf:Nat}{T:Nat->LType}{F:Nat->LField}:Ct n T nf F=0↔RightF n (λi=>(T i).name) nf F:=by
 unfold Ct
 by_cases h1:10<nf
 ·rw[Af h1]
  exact⟨λh=>by simp at h,λh=>by have:=h.few;omega⟩
 ·rw[Ae h1,Ey]
  constructor
  ·intro h
   exact⟨by omega,λj a=>(GD.1 (h j a)).1,λi j b a=>(GD.1 (h j a)).2.1 i b,λj a=>(GD.1 (h j a)).2.2⟩
  ·intro h j a
   exact GD.2 ⟨h.nam j a,λi b=>h.one i j b a,h.fit j a⟩
theorem Hj{n:Nat}{T:Nat->LType}:(CD n T).1=0↔RightQ n (λi=>(T i).name) (λi=>(T i).nf) (λi=>(T i).F):=by
 rw[NU];constructor
 ·rintro⟨h1,h2,h3⟩
  exact⟨h1,λi hi=>(Gp.1 (h2 i hi)).1,λi j a b=>(Gp.1 (h2 j b)).2 i a,λi hi=>JA.1 (h3 i hi)⟩
 ·intro h
  exact⟨h.few,λi hi=>Gp.2 ⟨h.nam i hi,λj b=>h.one j i b hi⟩,λi hi=>JA.2 (h.fld i hi)⟩
def DB (n:Nat) (S:Nat->PSeen):Prop:=RightQ n (λi=>(S i).name) (λi=>(S i).nf) (λi=>(S i).F)
theorem RightQ.ne{n:Nat}{N:Nat->ByteArray}{nf:Nat->Nat}{F:Nat->Nat->LField}(h:RightQ n N nf F){i j:Nat}(hi:i<n)(b:j<n)(a:i≠j):N i≠N j:=by
 rcases Nat.lt_or_gt_of_ne a with h1|h1
 ·exact h.one i j h1 b
 ·exact(h.one j i h1 hi).symm
theorem RightF.ne{n nf:Nat}{N:Nat->ByteArray}{F:Nat->LField}(h:RightF n N nf F){i j:Nat}(hi:i<nf)(b:j<nf)(a:i≠j):(F i).name≠(F j).name:=by
 rcases Nat.lt_or_gt_of_ne a with h1|h1
 ·exact h.one i j h1 b
 ·exact(h.one j i h1 hi).symm
theorem FP{s:ByteArray}(h:Cb s=true):s.size≠0:=by
 intro h0;unfold Cb at h;simp[h0]at h
theorem GC{n:Nat}{S:Nat->PSeen}{name:ByteArray}(h : ¬pfind n S name<0):(pfind n S name).toNat<n/\(S (pfind n S name).toNat).name=name/\pfind n S name=((pfind n S name).toNat:Int):=by
 unfold pfind at *;rcases CE n (λi=>eqs (S i).name name) with⟨e,_⟩|⟨k,hk,e,h1,_⟩
 ·rw[e]at h;omega
 ·rw[e];exact⟨by simpa using hk,by simpa using Ch.1 h1,by simp⟩
theorem Pa{n:Nat}{S:Nat->PSeen}{name:ByteArray}(h : ¬0<=pfind n S name):∀i,i<n->(S i).name≠name:=λi hi=>Db.1 (Dq.1 (show Ds n (λi=>eqs (S i).name name)<0 by unfold pfind at h;omega) i hi)
theorem Gy{n:Nat}{F:Nat->LField}{name:ByteArray}(h : ¬BX n F name<0):(BX n F name).toNat<n/\(F (BX n F name).toNat).name=name/\BX n F name=((BX n F name).toNat:Int):=by
 unfold BX at *;rcases CE n (λi=>eqs (F i).name name) with⟨e,_⟩|⟨k,hk,e,h1,_⟩
 ·rw[e]at h;omega
 ·rw[e];exact⟨by simpa using hk,by simpa using Ch.1 h1,by simp⟩
theorem Rt{n:Nat}{F:Nat->LField}{name:ByteArray}(h : ¬0<=BX n F name):∀i,i<n->(F i).name≠name:=λi hi=>Db.1 (Dq.1 (show Ds n (λi=>eqs (F i).name name)<0 by unfold BX at h;omega) i hi)
theorem Q8{n:Nat}{F:Nat->LField}{name:ByteArray}(h:∀i,i<n->(F i).name≠name):BX n F name<0:=Dq.2 λi hi=>Db.2 (h i hi)
theorem Nw{n t:Nat}{S:Nat->PSeen}{to:ByteArray}(h:DB n S)(q:t<n)(hn:Cb to=true)(r:∀i,i<n->(S i).name≠to):DB n (L6 S t to):=by
 refine⟨h.few,λi hi=>?_,λi j m g=>?_,λi hi=>?_⟩
 ·show Cb (if i=t then to else (S i).name)=true
  by_cases Fx:i=t
  ·rw[Af Fx];exact hn
  ·rw[Ae Fx];exact h.nam i hi
 ·show (if i=t then to else (S i).name)≠(if j=t then to else (S j).name)
  by_cases Fx:i=t
  ·rw[Af Fx,Ae (by omega)];exact(r j g).symm
  ·rw[Ae Fx]
   by_cases l:j=t
   ·rw[Af l];exact r i (by omega)
   ·rw[Ae l];exact h.one i j m g
 ·have hf:=h.fld i hi
  have c:∀f:LField,(Ed (S t).name to f).name=f.name:=λf=>by unfold Ed;split<;>rfl
  refine⟨hf.few,λj g=>?_,λa b o hb=>?_,λj g=>?_⟩
  ·show Cb (Ed (S t).name to ((S i).F j)).name=true
   rw[c];exact hf.nam j g
  ·show (Ed (S t).name to ((S i).F a)).name≠(Ed (S t).name to ((S i).F b)).name
   rw[c,c];exact hf.one a b o hb
  ·show QY n (λi=>if i=t then to else (S i).name) (Ed (S t).name to ((S i).F j))
   have d:=hf.fit j g;unfold Ed
   by_cases he:eqs ((S i).F j).type (S t).name=true
   ·rw[Af he]
    have p:=Ch.1 he;rcases d with⟨-,h2⟩|⟨h1,-⟩
    ·exact absurd h2 (by rw[p];exact FP (h.nam t q))
    ·exact .inr ⟨h1,t,q,by simp⟩
   ·rw[Ae he]
    rcases d with h1|⟨h1,k,hk,h2⟩
    ·exact .inl h1
    ·refine .inr ⟨h1,k,hk,?_⟩
     show (if k=t then to else (S k).name)=_
     rw[Ae (λe=>he (Ch.2 (by rw[<-h2];show (S k).name=_;rw[e])))];exact h2
theorem Oi{n t f:Nat}{S:Nat->PSeen}{to:ByteArray}(h:DB n S)(l:t<n)(hn:Cb to=true)(k:∀j,j<(S t).nf->((S t).F j).name≠to):DB n (LW S t f to):=by
 refine⟨h.few,h.nam,h.one,λi hi=>?_⟩;show RightF n (λi=>(S i).name) (S i).nf (if i=t then (λj=>if j=f then { (S t).F j with name:=to } else (S t).F j) else (S i).F)
 by_cases Fx:i=t
 ·subst Fx
  rw[Af rfl];have hf:=h.fld i hi;refine⟨hf.few,λj e=>?_,λa b g hb=>?_,λj e=>?_⟩
  ·show Cb (if j=f then { (S i).F j with name:=to } else (S i).F j).name=true
   by_cases c:j=f
   ·rw[Af c];exact hn
   ·rw[Ae c];exact hf.nam j e
  ·show (if a=f then { (S i).F a with name:=to } else (S i).F a).name≠(if b=f then { (S i).F b with name:=to } else (S i).F b).name
   by_cases ha:a=f
   ·rw[Af ha,Ae (by omega)];exact(k b hb).symm
   ·rw[Ae ha]
    by_cases d:b=f
    ·rw[Af d];exact k a (by omega)
    ·rw[Ae d];exact hf.one a b g hb
  ·show QY n (λi=>(S i).name) (if j=f then { (S i).F j with name:=to } else (S i).F j)
   have:=hf.fit j e
   by_cases c:j=f
   ·rw[Af c];exact this
   ·rw[Ae c];exact this
 ·rw[Ae Fx];exact h.fld i hi
theorem O2{n t f:Nat}{S:Nat->PSeen}(h:DB n S)(m:t<n)(hf:f<(S t).nf):DB n (DO S t f):=by
 have c:(λi=>(DO S t f i).name)=λi=>(S i).name:=by
  funext i;unfold DO;split
  ·subst i;rfl
  ·rfl
 have d:∀j,j<(S t).nf - 1->skip f j<(S t).nf:=λj g=>by unfold skip;split<;>omega
 unfold DB;rw[c];refine⟨h.few,h.nam,h.one,λi hi=>?_⟩
 by_cases Fx:i=t
 ·subst Fx
  have hF:=h.fld i hi;have e1:(DO S i f i).nf=(S i).nf - 1:=by unfold DO;rw[Af rfl]
  have e2:(DO S i f i).F=λj=>(S i).F (skip f j):=by unfold DO;rw[Af rfl]
  rw[e1,e2];have k:=hF.few;refine⟨by omega,λj g=>hF.nam _ (d j g),λa b l hb=>hF.one _ _ (by unfold skip;split<;>split<;>omega) (d b hb),λj g=>hF.fit _ (d j g)⟩
 ·have e:DO S t f i=S i:=by unfold DO;rw[Ae Fx]
  rw[e];exact h.fld i hi
theorem RN{n:Nat}{S:Nat->PSeen}{c:PChange}(h:DB n S):DB n (EF n S c).2:=by
 unfold EF;split
 ·exact h
 split
 ·exact h
 ·rename_i h1
  obtain⟨a,e,g⟩:=GC h1;split
  ·unfold EE
   split
   ·exact h
   ·rename_i h3
    simp at h3;exact Nw h a h3.1 (Pa (by omega))
  ·unfold FH
   split
   ·exact h
   ·rename_i h4
    obtain⟨d,i,j⟩:=Gy h4;split
    ·unfold Et
     split
     ·exact h
     ·rename_i b
      simp at b;exact Oi h a b.1 (Rt (by omega))
    ·exact O2 h a d
theorem D2{n:Nat}{S:Nat->PSeen}{C:Nat->PChange}(h:DB n S):∀k,DB n (Hu n S C k)
 | 0=>h
 | k+1=>RN (D2 h k)
theorem LO:∀l:List UInt8,Op.bytesLess l l=false
 | []=>rfl
 | a :: l=>by unfold Op.bytesLess;rw[LO l];simp
theorem Nv:∀{a b c:List UInt8},Op.bytesLess a b=true->Op.bytesLess b c=true->Op.bytesLess a c=true
 | _,[],_,h,_=>by unfold Op.bytesLess at h;cases h
 | _,_ :: _,[],_,h=>by unfold Op.bytesLess at h;cases h
 | [],_ :: _,_ :: _,_,_=>by unfold Op.bytesLess;rfl
 | x :: a,y :: b,z :: c,h1,h2=>by
  unfold Op.bytesLess at h1 h2 ⊢;simp only[Bool.or_eq_true,decide_eq_true_eq,Bn,beq_iff_eq]at h1 h2 ⊢;rcases h1 with h1|⟨rfl,h1⟩
  ·rcases h2 with h2|⟨rfl,h2⟩
   ·exact .inl (UInt8.lt_trans h1 h2)
   ·exact .inl h1
  ·rcases h2 with h2|⟨rfl,h2⟩
   ·exact .inl h2
   ·exact .inr ⟨rfl,Nv h1 h2⟩
theorem Tg:∀{a b:List UInt8},Op.bytesLess a b=false->Op.bytesLess b a=false->a=b
 | [],[],_,_=>rfl
 | [],_ :: _,h,_=>by unfold Op.bytesLess at h;cases h
 | _ :: _,[],_,h=>by unfold Op.bytesLess at h;cases h
 | x :: a,y :: b,h1,h2=>by
  unfold Op.bytesLess at h1 h2;simp only[Bool.or_eq_false_iff,Bh,Bool.and_eq_false_iff,Bc]at h1 h2;have e:x=y:=by
   have:=UInt8.not_lt.1 h1.1;have:=UInt8.not_lt.1 h2.1;exact UInt8.le_antisymm ‹_› ‹_›
  subst e;rw[Tg (h1.2.resolve_left (λh=>h rfl)) (h2.2.resolve_left (λh=>h rfl))]
theorem Tr:∀a b:List UInt8,Lib.compareBytes a b=if Op.bytesLess a b then -1 else if Op.bytesLess b a then 1 else 0
 | [],[]=>rfl
 | [],_ :: _=>by simp[Lib.compareBytes,Op.bytesLess]
 | _ :: _,[]=>by simp[Lib.compareBytes,Op.bytesLess]
 | x :: a,y :: b=>by
  unfold Lib.compareBytes Op.bytesLess;rw[Tr a b]
  by_cases h1:x<y
  ·simp[h1]
  ·by_cases h2:y<x
   ·have:x≠y:=λe=>by subst e;exact h1 h2
    simp[h1,h2,this]
   ·have e:x=y:=UInt8.le_antisymm (UInt8.not_lt.1 h2) (UInt8.not_lt.1 h1)
    subst e;simp[h1]
def lt (a b:ByteArray):Bool:=Op.bytesLess a.data.toList b.data.toList
theorem UU(a b:ByteArray):Op.bytesLess a.toList b.toList=lt a b:=by unfold lt;rw[BA,BA]
theorem L7(a:ByteArray):lt a a=false:=LO _
theorem I1{a b c:ByteArray}(h:lt a b=true)(k:lt b c=true):lt a c=true:=Nv h k
theorem SE{a b:ByteArray}(h:lt a b=false)(k:lt b a=false):a=b:=Ch.1 (by unfold eqs;rw[Tg h k];exact beq_self_eq_true _)
theorem Uj{a b:ByteArray}(h:lt a b=true):a≠b:=λe=>by rw[e,L7]at h;cases h
def Jc (a b:ByteArray):Int:=Lib.compareBytes a.data.toList b.data.toList
theorem QF(a b:ByteArray):Jc a b=if lt a b then -1 else if lt b a then 1 else 0:=by
 unfold Jc lt;rw[Tr]
theorem NS{a b:ByteArray}:Jc a b<0↔lt a b=true:=by
 rw[QF]
 cases h:lt a b with
 |true=>simp
 |false=>cases lt b a<;>simp
theorem LH{a b:ByteArray}:Jc a b=0↔a=b:=by
 rw[QF]
 cases h:lt a b with
 |true=>simpa using Uj h
 |false =>
  cases k:lt b a with
  |true=>simpa using (Uj k).symm
  |false=>simpa using SE h k
structure POwner where
 svc:Int
 type:ByteArray
 field:ByteArray
structure PPart where
 name:ByteArray
 fs:List LField
 os:List POwner
 hs:List POwner
def dF:LField:=⟨⟨#[]⟩,0,⟨#[]⟩⟩
def dO:POwner:=⟨0,⟨#[]⟩,⟨#[]⟩⟩
def Mv (s:ByteArray):PPart:=⟨s,[],[],[]⟩
def Ci (L:List PPart) (i:Nat):PPart:=L.getD i (Mv ⟨#[]⟩)
theorem QB{L:List PPart}{i:Nat}(h:i<L.length):Ci L i=L[i]:=by simp[Ci,List.getD,h]
theorem Gc{L:List PPart}{t i:Nat}{p:PPart}(h:t<L.length):Ci (L.set t p) i=if i=t then p else Ci L i:=by
 unfold Ci;simp only[List.getD,List.getElem?_set]
 by_cases e:t=i
 ·subst e;simp[h]
 ·rw[Ae e,Ae (BG e)]
def Ik (L:List PPart):Prop := ∀i j,i<j->j<L.length->lt (Ci L i).name (Ci L j).name=true
def pos (L:List PPart) (s:ByteArray):Nat:=(L.takeWhile (λp=>lt p.name s)).length
theorem Pv{s:ByteArray}:∀{L:List PPart} {k:Nat},k<=L.length->(∀t,t<k->lt (Ci L t).name s=true)->(k<L.length->lt (Ci L k).name s=false)->pos L s=k
 | [],k,h,_,_=>by
  have:k=0:=by simpa using h
  subst this;rfl
 | p :: L,0,_,_,h=>by
  have:=h (by simp);have a:lt p.name s=false:=this;unfold pos;rw[List.takeWhile_cons_of_neg (by simp[a])];rfl
 | p :: L,k+1,h,h1,h2=>by
  have h0:lt p.name s=true:=h1 0 (by omega);have ih:=Pv (s:=s) (L:=L) (k:=k) (by simpa using h) (λt b=>by simpa[Ci] using h1 (t+1) (by omega)) (λhk=>by simpa[Ci] using h2 (by simpa using hk));unfold pos at ih ⊢;rw[List.takeWhile_cons_of_pos (by simpa using h0),AP,ih]
theorem F2(L:List PPart)(s:ByteArray):pos L s<=L.length:=by
 unfold pos;exact List.Sublist.length_le (List.takeWhile_sublist _)
theorem MC{s:ByteArray} : ∀{L:List PPart} {t : Nat},t<pos L s->lt (Ci L t).name s=true
 | [],t,h=>by simp[pos]at h
 | p :: L,t,h=>by
  unfold pos at h
  cases h0:lt p.name s with
  |false=>rw[List.takeWhile_cons_of_neg (by simp[h0])]at h;simp at h
  |true =>
   rw[List.takeWhile_cons_of_pos (by simpa using h0),AP]at h
   cases t with
   |zero=>exact h0
   |succ t=>simpa[Ci] using MC (L:=L) (t:=t) (by unfold pos;omega)
theorem OZ{s:ByteArray}:∀{L:List PPart},pos L s<L.length->lt (Ci L (pos L s)).name s=false
 | [],h=>by simp[pos]at h
 | p :: L,h=>by
  cases h0:lt p.name s with
  |false =>
   have e:pos (p :: L) s=0:=by unfold pos;rw[List.takeWhile_cons_of_neg (by simp[h0])];rfl
   rw[e];exact h0
  |true =>
   have e:pos (p :: L) s=pos L s+1:=by unfold pos;rw[List.takeWhile_cons_of_pos (by simpa using h0),AP]
   rw[e]at h ⊢;simpa[Ci] using OZ (L:=L) (by simpa using h)
def Fx (L:List PPart) (s:ByteArray):Bool:=decide (pos L s<L.length)&&eqs (Ci L (pos L s)).name s
def ins (L:List PPart) (s:ByteArray):List PPart:=if Fx L s then L else L.take (pos L s)++Mv s :: L.drop (pos L s)
theorem GF{L:List PPart}{s:ByteArray}(h:Fx L s=true):ins L s=L:=by unfold ins;rw[Af h]
theorem Gj{L:List PPart}{s:ByteArray}(h:Fx L s=false):(ins L s).length=L.length+1:=by
 unfold ins;rw[h];simp;have:=F2 L s;omega
theorem EU{L:List PPart}{s:ByteArray}(h:Fx L s=false){i:Nat}:Ci (ins L s) i=if i<pos L s then Ci L i else if i=pos L s then Mv s else Ci L (i - 1):=by
 have b:=F2 L s;unfold ins;rw[h];simp only[Bool.false_eq_true,Bd];unfold Ci;simp only[List.getD]
 by_cases h1:i<pos L s
 ·rw[Af h1,Bt (by simp;omega),BO,Af h1]
 ·rw[Ae h1,BJ (by simp;omega)]
  have a:(L.take (pos L s)).length=pos L s:=by simp;omega
  rw[a]
  by_cases h2:i=pos L s
  ·rw[Af h2,h2,Nat.sub_self];rfl
  ·rw[Ae h2]
   obtain⟨k,rfl⟩:∃k,i=pos L s+1+k:=⟨i - (pos L s+1),by omega⟩;rw[show pos L s+1+k - pos L s=k+1 by omega,List.getElem?_cons_succ,List.getElem?_drop,show pos L s+1+k - 1=pos L s+k by omega]
theorem GP{L:List PPart}{s:ByteArray}:pos L s<(ins L s).length/\(Ci (ins L s) (pos L s)).name=s:=by
 cases h:Fx L s with
 |true =>
  rw[GF h];unfold Fx at h;rw[Bn,decide_eq_true_eq]at h;exact⟨h.1,Ch.1 h.2⟩
 |false =>
  refine⟨by rw[Gj h];have:=F2 L s;omega,?_⟩;rw[EU h,Ae (by omega),Af rfl];rfl
theorem Sy{L:List PPart}{s:ByteArray}(g:Ik L):Ik (ins L s):=by
 cases h:Fx L s with
 |true=>rw[GF h];exact g
 |false =>
  have b:∀t,pos L s<=t->t<L.length->lt s (Ci L t).name=true:=λt n k=>by
   have m:pos L s<L.length:=by omega
   have h1:=OZ m;have h2:lt s (Ci L (pos L s)).name=true:=by
    cases h3:lt s (Ci L (pos L s)).name with
    |true=>rfl
    |false =>
     have:=SE h1 h3;unfold Fx at h;rw[Bi m,Ch.2 this]at h;cases h
   rcases Nat.lt_or_eq_of_le n with h3|h3
   ·exact I1 h2 (g _ _ h3 k)
   ·rw[<-h3];exact h2
  intro i j l o;rw[Gj h]at o;rw[EU h,EU h]
  by_cases c:j<pos L s
  ·rw[Af (by omega),Af c];exact g i j l (by have:=F2 L s;omega)
  ·rw[Ae c]
   by_cases d:j=pos L s
   ·rw[Af d,Af (show i<pos L s by omega)];exact MC (s:=s) (show i<pos L s by omega)
   ·rw[Ae d]
    by_cases a:i<pos L s
    ·rw[Af a];exact I1 (MC a) (b (j - 1) (by omega) (by omega))
    ·rw[Ae a]
     by_cases e:i=pos L s
     ·rw[Af e];exact b (j - 1) (by omega) (by omega)
     ·rw[Ae e];exact g (i - 1) (j - 1) (by omega) (by omega)
theorem Te{L:List PPart}{t : Nat}{p:PPart}(d:Ik L)(b:t<L.length)(g:p.name=(Ci L t).name):Ik (L.set t p):=by
 intro i j a c;rw[Be]at c;rw[Gc b,Gc b];have e:∀q,(if q=t then p else Ci L q).name=(Ci L q).name:=λq=>by split<;>simp_all
 rw[e,e];exact d i j a c
def Cc (p:PPart) (svc:Int) (t:PSeen) (k:Nat):PPart:=⟨p.name,p.fs++(List.range k).map t.F,p.os++(List.range k).map (λj=>⟨svc,t.own,t.O j⟩),p.hs++[⟨svc,t.own,⟨#[]⟩⟩]⟩
def Fj (p:PPart) (t:PSeen) (k:Nat):Bool:=(p.fs++(List.range k).map t.F).any (λf=>eqs f.name (t.F k).name)
def JP (p:PPart) (t:PSeen):Int:=if (List.range t.nf).any (Fj p t) then 6 else 0
def Ez (svc:Int) (L:List PPart) (t:PSeen):List PPart:=(ins L t.name).set (pos L t.name) (Cc (Ci (ins L t.name) (pos L t.name)) svc t t.nf)
def Gm (L:List PPart) (t:PSeen):Int:=JP (Ci (ins L t.name) (pos L t.name)) t
def Dh (svc:Int) (L:List PPart) (S:Nat->PSeen):Nat->List PPart
 | 0=>L
 | k+1=>Ez svc (Dh svc L S k) (S k)
def I3 (svc:Int) (L:List PPart) (S:Nat->PSeen) (n:Nat):Int:=(CA n (λk=>Gm (Dh svc L S k) (S k))).1
def Cr (n:Nat->Nat) (S:Nat->Nat->PSeen):Nat->List PPart
 | 0=>[]
 | i+1=>Dh (i:Int) (Cr n S i) (S i) (n i)
def Gw (n:Nat->Nat) (S:Nat->Nat->PSeen) (i:Nat):Int:=I3 (i:Int) (Cr n S i) (S i) (n i)
theorem LB{svc:Int}{L:List PPart}{t : PSeen}(h:Ik L):Ik (Ez svc L t):=Te (Sy h) GP.1 rfl
theorem Jm{svc:Int}{L:List PPart}{S:Nat->PSeen}(h:Ik L):∀k,Ik (Dh svc L S k)
 | 0=>h
 | k+1=>LB (Jm h k)
theorem Kj{n:Nat->Nat}{S:Nat->Nat->PSeen}:∀i,Ik (Cr n S i)
 | 0=>λ_ _ _ h=>by simp[Cr]at h
 | i+1=>Jm (Kj i) _
structure Few (L:List PPart) (k:Nat):Prop where
 len:L.length<=k
 fs:∀i,i<L.length->(Ci L i).fs.length<=10*k
 os:∀i,i<L.length->(Ci L i).os.length<=10*k
 hs:∀i,i<L.length->(Ci L i).hs.length<=k
theorem Few.ins{L:List PPart}{k:Nat}(h:Few L k)(s:ByteArray):(ins L s).length<=k+1/\∀i,i<(Go.Proofs.YtjjggefmmeminabGreat.ins L s).length->(Ci (Go.Proofs.YtjjggefmmeminabGreat.ins L s) i).fs.length<=10*k/\(Ci (Go.Proofs.YtjjggefmmeminabGreat.ins L s) i).os.length<=10*k/\(Ci (Go.Proofs.YtjjggefmmeminabGreat.ins L s) i).hs.length<=k:=by
 cases hh:Fx L s with
 |true=>rw[GF hh];exact⟨Nat.le_succ_of_le h.len,λi hi=>⟨h.fs i hi,h.os i hi,h.hs i hi⟩⟩
 |false =>
  rw[Gj hh];refine⟨Nat.succ_le_succ h.len,λi hi=>?_⟩;rw[EU hh]
  by_cases h1:i<pos L s
  ·have:=F2 L s
   rw[Af h1];exact⟨h.fs i (by omega),h.os i (by omega),h.hs i (by omega)⟩
  ·rw[Ae h1]
   by_cases h2:i=pos L s
   ·rw[Af h2];exact⟨Ai _,Ai _,Ai _⟩
   ·rw[Ae h2];exact⟨h.fs _ (by omega),h.os _ (by omega),h.hs _ (by omega)⟩
theorem Few.step{L:List PPart}{k:Nat}(h:Few L k){svc:Int}{t : PSeen}(c:t.nf<=10):Few (Ez svc L t) (k+1):=by
 obtain⟨h1,h2⟩:=h.ins t.name;have b:=(GP (L:=L) (s:=t.name)).1;have a:(Ez svc L t).length=(Go.Proofs.YtjjggefmmeminabGreat.ins L t.name).length:=by unfold Ez;rw[Be]
 have hn:∀i,i<(Ez svc L t).length->(Ci (Ez svc L t) i).fs.length<=10*(k+1)/\(Ci (Ez svc L t) i).os.length<=10*(k+1)/\(Ci (Ez svc L t) i).hs.length<=k+1:=λi hi=>by
  rw[a]at hi;obtain⟨d,g,j⟩:=h2 i hi;unfold Ez;rw[Gc b]
  by_cases e:i=pos L t.name
  ·rw[Af e,<-e]
   unfold Cc;simp only[Ay,A6,Bu,Bw];exact⟨by omega,by omega,by omega⟩
  ·rw[Ae e];exact⟨by omega,by omega,by omega⟩
 exact⟨by rw[a];exact h1,λi hi=>(hn i hi).1,λi hi=>(hn i hi).2.1,λi hi=>(hn i hi).2.2⟩
theorem Few.fold{L:List PPart}{k:Nat}(h:Few L k){svc:Int}{S:Nat->PSeen}:∀j,(∀q,q<j->(S q).nf<=10)->Few (Dh svc L S j) (k+j)
 | 0,_=>h
 | j+1,hS=>(Few.fold h j (λq hq=>hS q (by omega))).step (hS j (by omega))
theorem Few.mono{L:List PPart}{k a:Nat}(h:Few L k)(hk:k<=a):Few L a :=
 ⟨Am h.len hk,λi hi=>Am (h.fs i hi) (by omega),λi hi=>Am (h.os i hi) (by omega),λi hi=>Am (h.hs i hi) hk⟩
theorem My{n:Nat->Nat}{S:Nat->Nat->PSeen}:∀i,(∀q,q<i->n q<=8)->(∀q,q<i->∀j,j<n q->(S q j).nf<=10)->Few (Cr n S i) (8*i)
 | 0,_,_=>⟨Aj _,λi hi=>by simp[Cr]at hi,λi hi=>by simp[Cr]at hi,λi hi=>by simp[Cr]at hi⟩
 | i+1,h1,h2=>((My i (λq hq=>h1 q (by omega)) (λq hq=>h2 q (by omega))).fold (n i) (λq hq=>h2 i (by omega) q hq)).mono (by have:=h1 i (by omega);omega)
def Fd (L:List PPart) (name:ByteArray):Int:=Ds L.length (λi=>eqs (Ci L i).name name)
def De (p:PPart) (j:Nat):LField:=p.fs.getD j dF
def D1 (p:PPart) (j:Nat):POwner:=p.os.getD j dO
def Eg (p:PPart) (j:Nat):POwner:=p.hs.getD j dO
theorem IQ{w:World}{b t:Nat}{d:Array Value}(h:w.heap[b]? = some (.cells d t (0,0))):∀a,some (⟨b,0,none⟩:Addr)=some a->∀j u,d.toList[j]? = some u->w.cell? (a.add j)=some u:=by
 intro a c j u e;cases c;rw[AO];simp[World.cell?,h];simpa using e
theorem IB{w w':World}(hb:Below w.heap.size w w'){k:Nat}{o:Obj}(h:w.heap[k]? = some o):w'.heap[k]? = some o:=(hb.block k (Ag h)).trans h
theorem Dn{n m:Nat}{T:Nat->LType}{C:Nat->PChange}(h:(EZ n T m C).1=0):DB n (DK T):=by
 unfold EZ at h
 by_cases h1:(CD n T).1≠0
 ·rw[Af h1]at h;exact absurd h h1
 ·exact Hj.1 (Decidable.not_not.1 h1)
theorem TO{n:Nat}{S:Nat->PSeen}{c:PChange}(i:Nat):((EF n S c).2 i).own=(S i).own/\((EF n S c).2 i).nf<=(S i).nf:=by
 unfold EF;split
 ·exact⟨rfl,Aj _⟩
 split
 ·exact⟨rfl,Aj _⟩
 split
 ·unfold EE
  split
  ·exact⟨rfl,Aj _⟩
  ·exact⟨rfl,Aj _⟩
 ·unfold FH
  split
  ·exact⟨rfl,Aj _⟩
  split
  ·unfold Et
   split
   ·exact⟨rfl,Aj _⟩
   ·exact⟨rfl,Aj _⟩
  ·show (DO S _ _ i).own=_/\(DO S _ _ i).nf<=_
   unfold DO;split
   ·rename_i h;rw[h];exact⟨rfl,Nat.sub_le _ _⟩
   ·exact⟨rfl,Aj _⟩
theorem Qm{n:Nat}{S:Nat->PSeen}{C:Nat->PChange}(i:Nat):∀k,(Hu n S C k i).own=(S i).own/\(Hu n S C k i).nf<=(S i).nf
 | 0=>⟨rfl,Aj _⟩
 | k+1=>by
  obtain⟨h1,h2⟩:=Qm i k (n:=n) (S:=S) (C:=C);obtain⟨h3,h4⟩:=TO i (n:=n) (S:=Hu n S C k) (c:=C k);exact⟨h3.trans h1,Am h4 h2⟩
end Go.Proofs.YtjjggefmmeminabGreat
