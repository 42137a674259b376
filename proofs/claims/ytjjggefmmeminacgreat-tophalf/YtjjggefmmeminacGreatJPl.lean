import Derived.Test.YtjjggefmmeminacGreatJWr
import Derived.Test.YtjjggefmmeminacGreatJBase
import Derived.Lib.Bytealg
namespace Go.Proofs.YtjjggefmmeminacGreat
def more (n:Nat) (T:Nat→LType) (name:ByteArray) (i:Nat):LType:=if i < n then T i else ⟨name,none,0,0,fun _=>⟨ByteArray.empty,0,ByteArray.empty⟩⟩
theorem right_parts {n:Nat} {T:Nat→LType} : (wrongS n T).1=0 ↔ n≤8∧(∀ i,i < n→wrongTypeName T i=0)∧∀ i,i < n→wrongFields n T (T i).nf (T i).F=0:=by
 unfold wrongS
 by_cases h1:8 < n
 ·rw [if_pos h1]
  exact ⟨fun h=>by simp at h,fun h=>by omega⟩
 ·rw [if_neg h1]
  by_cases h2:(fault n (wrongTypeName T)).1≠0
  ·rw [if_pos h2]
   exact ⟨fun h=>absurd h h2,fun h=>absurd (fault_zero.2 h.2.1) h2⟩
  ·rw [if_neg h2,fault_zero]
   have h2':=fault_zero.1 (Decidable.not_not.1 h2)
   exact ⟨fun h=>⟨by omega,h2',h⟩,fun h=>h.2.2⟩
end Go.Proofs.YtjjggefmmeminacGreat
namespace Go.Proofs.YtjjggefmmeminacGreat
open Go.RowKit Go.Sort
structure PChange where
 kind:Int
 type:ByteArray
 field:ByteArray
 to:ByteArray
def callT (S:Nat→PSeen) (t:Nat) (to:ByteArray):Nat→PSeen:=fun i => { S i with name:=if i=t then to else (S i).name,F:=fun j=>retype (S t).name to ((S i).F j) }
def callF (S:Nat→PSeen) (t f:Nat) (to:ByteArray):Nat→PSeen:=fun i => { S i with F:=if i=t then (fun j=>if j=f then { (S t).F j with name:=to } else (S t).F j) else (S i).F }
def skip (f j:Nat):Nat:=if j < f then j else j + 1
def hideF (S:Nat→PSeen) (t f:Nat):Nat→PSeen:=fun i=>if i=t then { S t with nf:=(S t).nf - 1,F:=fun j=>(S t).F (skip f j),O:=fun j=>(S t).O (skip f j) } else S i
def callTS (n:Nat) (S:Nat→PSeen) (t:Nat) (to:ByteArray):Int × (Nat→PSeen):=if !named to || decide (0≤pfind n S to) then (6,S) else (0,callT S t to)
def callFS (S:Nat→PSeen) (t f:Nat) (to:ByteArray):Int × (Nat→PSeen):=if !named to || decide (0≤fieldIdx (S t).nf (S t).F to) then (6,S) else (0,callF S t f to)
def fieldS (S:Nat→PSeen) (t:Nat) (c:PChange):Int × (Nat→PSeen) :=
 if fieldIdx (S t).nf (S t).F c.field < 0 then (5,S) else if c.kind=2 then callFS S t (fieldIdx (S t).nf (S t).F c.field).toNat c.to else (0,hideF S t (fieldIdx (S t).nf (S t).F c.field).toNat)
def appS (n:Nat) (S:Nat→PSeen) (c:PChange):Int × (Nat→PSeen) :=
 if c.kind≠1∧c.kind≠2∧c.kind≠3 then (1,S) else if pfind n S c.type < 0 then (5,S) else if c.kind=1 then callTS n S (pfind n S c.type).toNat c.to else fieldS S (pfind n S c.type).toNat c
def runS (n:Nat) (S:Nat→PSeen) (C:Nat→PChange):Nat→(Nat→PSeen)
 | 0=>S
 | k + 1=>(appS n (runS n S C k) (C k)).2
def errS (n:Nat) (S:Nat→PSeen) (C:Nat→PChange) (k:Nat):Int:=(appS n (runS n S C k) (C k)).1
def initS (T:Nat→LType):Nat→PSeen:=fun i=>⟨(T i).name,(T i).nf,(T i).F,(T i).name,fun j=>((T i).F j).name⟩
def seeF (n:Nat) (T:Nat→LType) (m:Nat) (C:Nat→PChange):Int × Int:=if (wrongS n T).1≠0 then wrongS n T else if 12 < m then (4,0) else fault m (errS n (initS T) C)
def Fits (n:Nat) (N:Nat→ByteArray) (f:LField):Prop:=(f.kind=1∧f.type.size=0)∨((f.kind=2∨f.kind=3)∧∃ i,i < n∧N i=f.type)
structure RightF (n:Nat) (N:Nat→ByteArray) (nf:Nat) (F:Nat→LField):Prop where
 few:nf≤10
 nam:∀ j,j < nf→named (F j).name=true
 one:∀ i j,i < j→j < nf→(F i).name≠(F j).name
 fit:∀ j,j < nf→Fits n N (F j)
structure RightQ (n:Nat) (N:Nat→ByteArray) (nf:Nat→Nat) (F:Nat→Nat→LField):Prop where
 few:n≤8
 nam:∀ i,i < n→named (N i)=true
 one:∀ i j,i < j→j < n→N i≠N j
 fld:∀ i,i < n→RightF n N (nf i) (F i)
theorem eqs_false {a b:ByteArray} : eqs a b=false ↔ a≠b:=by
 rw [← Bool.not_eq_true,eqs_iff]
theorem typeName_zero {T:Nat→LType} {i:Nat} : wrongTypeName T i=0 ↔ named (T i).name=true∧∀ j,j < i→(T j).name≠(T i).name:=by
 unfold wrongTypeName find
 have h2:(0≤idx i (fun j=>eqs (T j).name (T i).name)) ↔ ¬ ∀ j,j < i→(T j).name≠(T i).name:=by
  constructor
  ·intro h hh
   have:idx i (fun j=>eqs (T j).name (T i).name) < 0:=idx_neg.2 fun j hj=>eqs_false.2 (hh j hj)
   omega
  ·intro h
   by_cases h0:idx i (fun j=>eqs (T j).name (T i).name) < 0
   ·exact absurd (fun j hj=>eqs_false.1 (idx_neg.1 h0 j hj)) h
   ·omega
 cases h1:named (T i).name
 ·simp
 ·by_cases h0:0≤idx i (fun j=>eqs (T j).name (T i).name)
  ·simp only [h0]
   constructor
   ·intro h; simp at h
   ·intro h; exact absurd h.2 (h2.1 h0)
  ·simp only [h0]
   constructor
   ·intro _; exact ⟨trivial,Classical.byContradiction fun hh=>h0 (h2.2 hh)⟩
   ·intro _; simp
theorem fit_zero {n:Nat} {T:Nat→LType} {f : LField} : fitOf f.kind f.type (find n T f.type)=0 ↔ Fits n (fun i=>(T i).name) f:=by
 have hf : ¬ find n T f.type < 0 ↔ ∃ i,i < n∧(T i).name=f.type:=by
  unfold find
  rcases idx_cases n (fun i=>eqs (T i).name f.type) with ⟨e,h⟩ | ⟨k,hk,e,h1,h2⟩
  ·rw [e]
   exact ⟨fun h0=>absurd (by decide) h0,fun ⟨i,hi,he⟩=>absurd he (eqs_false.1 (h i hi))⟩
  ·rw [e]
   exact ⟨fun _=>⟨k,hk,eqs_iff.1 h1⟩,fun _=>by omega⟩
 unfold fitOf Fits
 by_cases h1:f.kind=1
 ·rw [if_pos h1]
  by_cases h2:f.type.size=0
  ·rw [if_pos h2]; exact ⟨fun _=>.inl ⟨h1,h2⟩,fun _=>rfl⟩
  ·rw [if_neg h2]
   exact ⟨fun h=>by simp at h,fun h=>by rcases h with ⟨_,h⟩ | ⟨h,_⟩ <;> omega⟩
 ·rw [if_neg h1]
  by_cases h2:f.kind=2∨f.kind=3
  ·rw [if_pos h2]
   by_cases h3:find n T f.type < 0
   ·rw [if_pos h3]
    exact ⟨fun h=>by simp at h,fun h=>by
     rcases h with ⟨h,_⟩ | ⟨_,h⟩
     ·exact absurd h h1
     ·exact absurd h3 (hf.2 h)⟩
   ·rw [if_neg h3]
    exact ⟨fun _=>.inr ⟨h2,hf.1 h3⟩,fun _=>rfl⟩
  ·rw [if_neg h2]
   exact ⟨fun h=>by simp at h,fun h=>by
    rcases h with ⟨h,_⟩ | ⟨h,_⟩
    ·exact absurd h h1
    ·exact absurd h h2⟩
theorem field_zero {n:Nat} {T:Nat→LType} {F:Nat→LField} {j:Nat} : wrongField n T F j=0 ↔ named (F j).name=true∧(∀ i,i < j→(F i).name≠(F j).name)∧Fits n (fun i=>(T i).name) (F j):=by
 unfold wrongField fieldIdx
 have h2:(0≤idx j (fun i=>eqs (F i).name (F j).name)) ↔ ¬ ∀ i,i < j→(F i).name≠(F j).name:=by
  constructor
  ·intro h hh
   have:idx j (fun i=>eqs (F i).name (F j).name) < 0:=idx_neg.2 fun i hi=>eqs_false.2 (hh i hi)
   omega
  ·intro h
   by_cases h0:idx j (fun i=>eqs (F i).name (F j).name) < 0
   ·exact absurd (fun i hi=>eqs_false.1 (idx_neg.1 h0 i hi)) h
   ·omega
 cases h1:named (F j).name
 ·simp
 ·by_cases h0:0≤idx j (fun i=>eqs (F i).name (F j).name)
  ·simp only [h0]
   constructor
   ·intro h; simp at h
   ·intro h; exact absurd h.2.1 (h2.1 h0)
  ·simp only [h0]
   have h3:∀ i,i < j→(F i).name≠(F j).name:=Classical.byContradiction fun hh=>h0 (h2.2 hh)
   constructor
   ·intro h; exact ⟨trivial,h3,fit_zero.1 (by simpa using h)⟩
   ·intro h; have:=fit_zero.2 h.2.2; simpa using this
theorem fields_zero {n nf:Nat} {T:Nat→LType} {F:Nat→LField} : wrongFields n T nf F=0 ↔ RightF n (fun i=>(T i).name) nf F:=by
 unfold wrongFields
 by_cases h1:10 < nf
 ·rw [if_pos h1]
  exact ⟨fun h=>by simp at h,fun h=>by have:=h.few; omega⟩
 ·rw [if_neg h1,fault_zero]
  constructor
  ·intro h
   exact ⟨by omega,fun j hj=>(field_zero.1 (h j hj)).1,fun i j hij hj=>(field_zero.1 (h j hj)).2.1 i hij,fun j hj=>(field_zero.1 (h j hj)).2.2⟩
  ·intro h j hj
   exact field_zero.2 ⟨h.nam j hj,fun i hij=>h.one i j hij hj,h.fit j hj⟩
theorem right_iff {n:Nat} {T:Nat→LType} : (wrongS n T).1=0 ↔ RightQ n (fun i=>(T i).name) (fun i=>(T i).nf) (fun i=>(T i).F):=by
 rw [right_parts]
 constructor
 ·rintro ⟨h1,h2,h3⟩
  exact ⟨h1,fun i hi=>(typeName_zero.1 (h2 i hi)).1,fun i j hij hj=>(typeName_zero.1 (h2 j hj)).2 i hij,fun i hi=>fields_zero.1 (h3 i hi)⟩
 ·intro h
  exact ⟨h.few,fun i hi=>typeName_zero.2 ⟨h.nam i hi,fun j hj=>h.one j i hj hi⟩,fun i hi=>fields_zero.2 (h.fld i hi)⟩
def RightS (n:Nat) (S:Nat→PSeen):Prop:=RightQ n (fun i=>(S i).name) (fun i=>(S i).nf) (fun i=>(S i).F)
theorem RightQ.ne {n:Nat} {N:Nat→ByteArray} {nf:Nat→Nat} {F:Nat→Nat→LField} (h:RightQ n N nf F) {i j:Nat} (hi:i < n) (hj:j < n) (hij:i≠j):N i≠N j:=by
 rcases Nat.lt_or_gt_of_ne hij with h1 | h1
 ·exact h.one i j h1 hj
 ·exact (h.one j i h1 hi).symm
theorem RightF.ne {n nf:Nat} {N:Nat→ByteArray} {F:Nat→LField} (h:RightF n N nf F) {i j:Nat} (hi:i < nf) (hj:j < nf) (hij:i≠j):(F i).name≠(F j).name:=by
 rcases Nat.lt_or_gt_of_ne hij with h1 | h1
 ·exact h.one i j h1 hj
 ·exact (h.one j i h1 hi).symm
theorem named_pos {s:ByteArray} (h:named s=true):s.size≠0:=by
 intro h0
 unfold named at h
 simp [h0] at h
theorem pfind_hit {n:Nat} {S:Nat→PSeen} {name:ByteArray} (h : ¬ pfind n S name < 0):(pfind n S name).toNat < n∧(S (pfind n S name).toNat).name=name∧pfind n S name=((pfind n S name).toNat:Int):=by
 unfold pfind at *
 rcases idx_cases n (fun i=>eqs (S i).name name) with ⟨e,_⟩ | ⟨k,hk,e,h1,_⟩
 ·rw [e] at h; omega
 ·rw [e]; exact ⟨by simpa using hk,by simpa using eqs_iff.1 h1,by simp⟩
theorem pfind_miss {n:Nat} {S:Nat→PSeen} {name:ByteArray} (h : ¬ 0≤pfind n S name):∀ i,i < n→(S i).name≠name:=fun i hi=>eqs_false.1 (idx_neg.1 (show idx n (fun i=>eqs (S i).name name) < 0 by unfold pfind at h; omega) i hi)
theorem fidx_hit {n:Nat} {F:Nat→LField} {name:ByteArray} (h : ¬ fieldIdx n F name < 0):(fieldIdx n F name).toNat < n∧(F (fieldIdx n F name).toNat).name=name∧fieldIdx n F name=((fieldIdx n F name).toNat:Int):=by
 unfold fieldIdx at *
 rcases idx_cases n (fun i=>eqs (F i).name name) with ⟨e,_⟩ | ⟨k,hk,e,h1,_⟩
 ·rw [e] at h; omega
 ·rw [e]; exact ⟨by simpa using hk,by simpa using eqs_iff.1 h1,by simp⟩
theorem fidx_miss {n:Nat} {F:Nat→LField} {name:ByteArray} (h : ¬ 0≤fieldIdx n F name):∀ i,i < n→(F i).name≠name:=fun i hi=>eqs_false.1 (idx_neg.1 (show idx n (fun i=>eqs (F i).name name) < 0 by unfold fieldIdx at h; omega) i hi)
theorem right_callT {n t:Nat} {S:Nat→PSeen} {to:ByteArray} (h:RightS n S) (ht:t < n) (hn:named to=true) (hm:∀ i,i < n→(S i).name≠to):RightS n (callT S t to):=by
 refine ⟨h.few,fun i hi=>?_,fun i j hij hj=>?_,fun i hi=>?_⟩
 ·show named (if i=t then to else (S i).name)=true
  by_cases hit:i=t
  ·rw [if_pos hit]; exact hn
  ·rw [if_neg hit]; exact h.nam i hi
 ·show (if i=t then to else (S i).name)≠(if j=t then to else (S j).name)
  by_cases hit:i=t
  ·rw [if_pos hit,if_neg (by omega)]; exact (hm j hj).symm
  ·rw [if_neg hit]
   by_cases hjt:j=t
   ·rw [if_pos hjt]; exact hm i (by omega)
   ·rw [if_neg hjt]; exact h.one i j hij hj
 ·have hf:=h.fld i hi
  have hname:∀ f:LField,(retype (S t).name to f).name=f.name:=fun f=>by unfold retype; split <;> rfl
  refine ⟨hf.few,fun j hj=>?_,fun a b hab hb=>?_,fun j hj=>?_⟩
  ·show named (retype (S t).name to ((S i).F j)).name=true
   rw [hname]; exact hf.nam j hj
  ·show (retype (S t).name to ((S i).F a)).name≠(retype (S t).name to ((S i).F b)).name
   rw [hname,hname]; exact hf.one a b hab hb
  ·show Fits n (fun i=>if i=t then to else (S i).name) (retype (S t).name to ((S i).F j))
   have hfit:=hf.fit j hj
   unfold retype
   by_cases he:eqs ((S i).F j).type (S t).name=true
   ·rw [if_pos he]
    have he':=eqs_iff.1 he
    rcases hfit with ⟨-,h2⟩ | ⟨h1,-⟩
    ·exact absurd h2 (by rw [he']; exact named_pos (h.nam t ht))
    ·exact .inr ⟨h1,t,ht,by simp⟩
   ·rw [if_neg he]
    rcases hfit with h1 | ⟨h1,k,hk,h2⟩
    ·exact .inl h1
    ·refine .inr ⟨h1,k,hk,?_⟩
     show (if k=t then to else (S k).name)=_
     rw [if_neg (fun e=>he (eqs_iff.2 (by rw [← h2]; show (S k).name=_; rw [e])))]
     exact h2
theorem right_callF {n t f:Nat} {S:Nat→PSeen} {to:ByteArray} (h:RightS n S) (ht:t < n) (hn:named to=true) (hm:∀ j,j < (S t).nf→((S t).F j).name≠to):RightS n (callF S t f to):=by
 refine ⟨h.few,h.nam,h.one,fun i hi=>?_⟩
 show RightF n (fun i=>(S i).name) (S i).nf (if i=t then (fun j=>if j=f then { (S t).F j with name:=to } else (S t).F j) else (S i).F)
 by_cases hit:i=t
 ·subst hit
  rw [if_pos rfl]
  have hf:=h.fld i hi
  refine ⟨hf.few,fun j hj=>?_,fun a b hab hb=>?_,fun j hj=>?_⟩
  ·show named (if j=f then { (S i).F j with name:=to } else (S i).F j).name=true
   by_cases hjf:j=f
   ·rw [if_pos hjf]; exact hn
   ·rw [if_neg hjf]; exact hf.nam j hj
  ·show (if a=f then { (S i).F a with name:=to } else (S i).F a).name≠(if b=f then { (S i).F b with name:=to } else (S i).F b).name
   by_cases ha:a=f
   ·rw [if_pos ha,if_neg (by omega)]; exact (hm b hb).symm
   ·rw [if_neg ha]
    by_cases hbf:b=f
    ·rw [if_pos hbf]; exact hm a (by omega)
    ·rw [if_neg hbf]; exact hf.one a b hab hb
  ·show Fits n (fun i=>(S i).name) (if j=f then { (S i).F j with name:=to } else (S i).F j)
   have:=hf.fit j hj
   by_cases hjf:j=f
   ·rw [if_pos hjf]; exact this
   ·rw [if_neg hjf]; exact this
 ·rw [if_neg hit]; exact h.fld i hi
theorem right_hide {n t f:Nat} {S:Nat→PSeen} (h:RightS n S) (ht:t < n) (hf:f < (S t).nf):RightS n (hideF S t f):=by
 have hname:(fun i=>(hideF S t f i).name)=fun i=>(S i).name:=by
  funext i; unfold hideF; split
  ·subst i; rfl
  ·rfl
 have hsk:∀ j,j < (S t).nf - 1→skip f j < (S t).nf:=fun j hj=>by unfold skip; split <;> omega
 unfold RightS
 rw [hname]
 refine ⟨h.few,h.nam,h.one,fun i hi=>?_⟩
 by_cases hit:i=t
 ·subst hit
  have hF:=h.fld i hi
  have e1:(hideF S i f i).nf=(S i).nf - 1:=by unfold hideF; rw [if_pos rfl]
  have e2:(hideF S i f i).F=fun j=>(S i).F (skip f j):=by unfold hideF; rw [if_pos rfl]
  rw [e1,e2]
  have hfew:=hF.few
  refine ⟨by omega,fun j hj=>hF.nam _ (hsk j hj),fun a b hab hb=>hF.one _ _ (by unfold skip; split <;> split <;> omega) (hsk b hb),fun j hj=>hF.fit _ (hsk j hj)⟩
 ·have e:hideF S t f i=S i:=by unfold hideF; rw [if_neg hit]
  rw [e]; exact h.fld i hi
theorem right_app {n:Nat} {S:Nat→PSeen} {c:PChange} (h:RightS n S):RightS n (appS n S c).2:=by
 unfold appS
 split
 ·exact h
 split
 ·exact h
 ·rename_i h1
  obtain ⟨q1,q2,q3⟩:=pfind_hit h1
  split
  ·unfold callTS
   split
   ·exact h
   ·rename_i h3
    simp at h3
    exact right_callT h q1 h3.1 (pfind_miss (by omega))
  ·unfold fieldS
   split
   ·exact h
   ·rename_i h4
    obtain ⟨r1,r2,r3⟩:=fidx_hit h4
    split
    ·unfold callFS
     split
     ·exact h
     ·rename_i h5
      simp at h5
      exact right_callF h q1 h5.1 (fidx_miss (by omega))
    ·exact right_hide h q1 r1
theorem right_run {n:Nat} {S:Nat→PSeen} {C:Nat→PChange} (h:RightS n S):∀ k,RightS n (runS n S C k)
 | 0=>h
 | k + 1=>right_app (right_run h k)
end Go.Proofs.YtjjggefmmeminacGreat
namespace Go.Proofs.YtjjggefmmeminacGreat
open Go.RowKit Go.Sort
theorem bl_irrefl:∀ l:List UInt8,Op.bytesLess l l=false
 | []=>rfl
 | a :: l=>by unfold Op.bytesLess; rw [bl_irrefl l]; simp
theorem bl_trans:∀ {a b c:List UInt8},Op.bytesLess a b=true→Op.bytesLess b c=true→Op.bytesLess a c=true
 | _,[],_,h,_=>by unfold Op.bytesLess at h; cases h
 | _,_ :: _,[],_,h=>by unfold Op.bytesLess at h; cases h
 | [],_ :: _,_ :: _,_,_=>by unfold Op.bytesLess; rfl
 | x :: a,y :: b,z :: c,h1,h2=>by
  unfold Op.bytesLess at h1 h2 ⊢
  simp only [Bool.or_eq_true,decide_eq_true_eq,Bool.and_eq_true,beq_iff_eq] at h1 h2 ⊢
  rcases h1 with h1 | ⟨rfl,h1⟩
  ·rcases h2 with h2 | ⟨rfl,h2⟩
   ·exact .inl (UInt8.lt_trans h1 h2)
   ·exact .inl h1
  ·rcases h2 with h2 | ⟨rfl,h2⟩
   ·exact .inl h2
   ·exact .inr ⟨rfl,bl_trans h1 h2⟩
theorem bl_tri:∀ {a b:List UInt8},Op.bytesLess a b=false→Op.bytesLess b a=false→a=b
 | [],[],_,_=>rfl
 | [],_ :: _,h,_=>by unfold Op.bytesLess at h; cases h
 | _ :: _,[],_,h=>by unfold Op.bytesLess at h; cases h
 | x :: a,y :: b,h1,h2=>by
  unfold Op.bytesLess at h1 h2
  simp only [Bool.or_eq_false_iff,decide_eq_false_iff_not,Bool.and_eq_false_iff,beq_eq_false_iff_ne] at h1 h2
  have e:x=y:=by
   have:=UInt8.not_lt.1 h1.1
   have:=UInt8.not_lt.1 h2.1
   exact UInt8.le_antisymm ‹_› ‹_›
  subst e
  rw [bl_tri (h1.2.resolve_left (fun h=>h rfl)) (h2.2.resolve_left (fun h=>h rfl))]
theorem cmp_bl:∀ a b:List UInt8,Lib.compareBytes a b=if Op.bytesLess a b then -1 else if Op.bytesLess b a then 1 else 0
 | [],[]=>rfl
 | [],_ :: _=>by simp [Lib.compareBytes,Op.bytesLess]
 | _ :: _,[]=>by simp [Lib.compareBytes,Op.bytesLess]
 | x :: a,y :: b=>by
  unfold Lib.compareBytes Op.bytesLess
  rw [cmp_bl a b]
  by_cases h1:x < y
  ·simp [h1]
  ·by_cases h2:y < x
   ·have:x≠y:=fun e=>by subst e; exact h1 h2
    simp [h1,h2,this]
   ·have e:x=y:=UInt8.le_antisymm (UInt8.not_lt.1 h2) (UInt8.not_lt.1 h1)
    subst e
    simp [h1]
def lt (a b:ByteArray):Bool:=Op.bytesLess a.data.toList b.data.toList
theorem lt_irrefl (a:ByteArray):lt a a=false:=bl_irrefl _
theorem lt_trans {a b c:ByteArray} (h:lt a b=true) (k:lt b c=true):lt a c=true:=bl_trans h k
theorem lt_tri {a b:ByteArray} (h:lt a b=false) (k:lt b a=false):a=b:=eqs_iff.1 (by unfold eqs; rw [bl_tri h k]; exact beq_self_eq_true _)
theorem lt_ne {a b:ByteArray} (h:lt a b=true):a≠b:=fun e=>by rw [e,lt_irrefl] at h; cases h
def cmpS (a b:ByteArray):Int:=Lib.compareBytes a.data.toList b.data.toList
theorem cmpS_eq (a b:ByteArray):cmpS a b=if lt a b then -1 else if lt b a then 1 else 0:=by
 unfold cmpS lt; rw [cmp_bl]
theorem cmpS_neg {a b:ByteArray} : cmpS a b < 0 ↔ lt a b=true:=by
 rw [cmpS_eq]
 cases h:lt a b with
 | true=>simp
 | false=>cases lt b a <;> simp
theorem cmpS_zero {a b:ByteArray} : cmpS a b=0 ↔ a=b:=by
 rw [cmpS_eq]
 cases h:lt a b with
 | true=>simpa using lt_ne h
 | false =>
  cases k:lt b a with
  | true=>simpa using (lt_ne k).symm
  | false=>simpa using lt_tri h k
end Go.Proofs.YtjjggefmmeminacGreat
namespace Go.Proofs.YtjjggefmmeminacGreat
open Go.RowKit Go.Sort
structure POwner where
 svc:Int
 type:ByteArray
 field:ByteArray
structure PPart where
 name:ByteArray
 fs:List LField
 os:List POwner
 hs:List POwner
def dF:LField:=⟨⟨#[]⟩,0,⟨#[]⟩⟩
def dO:POwner:=⟨0,⟨#[]⟩,⟨#[]⟩⟩
def newP (s:ByteArray):PPart:=⟨s,[],[],[]⟩
def nth (L:List PPart) (i:Nat):PPart:=L.getD i (newP ⟨#[]⟩)
theorem nth_get {L:List PPart} {i:Nat} (h:i < L.length):nth L i=L[i]:=by simp [nth,List.getD,h]
theorem nth_set {L:List PPart} {t i:Nat} {p:PPart} (h:t < L.length):nth (L.set t p) i=if i=t then p else nth L i:=by
 unfold nth
 simp only [List.getD,List.getElem?_set]
 by_cases e:t=i
 ·subst e; simp [h]
 ·rw [if_neg e,if_neg (Ne.symm e)]
def Rise (L:List PPart):Prop := ∀ i j,i < j→j < L.length→lt (nth L i).name (nth L j).name=true
def pos (L:List PPart) (s:ByteArray):Nat:=(L.takeWhile (fun p=>lt p.name s)).length
theorem pos_is {s:ByteArray} : ∀ {L:List PPart} {k:Nat},k≤L.length→(∀ t,t < k→lt (nth L t).name s=true)→(k < L.length→lt (nth L k).name s=false)→pos L s=k
 | [],k,h,_,_=>by
  have:k=0:=by simpa using h
  subst this; rfl
 | p :: L,0,_,_,h=>by
  have:=h (by simp)
  have h':lt p.name s=false:=this
  unfold pos; rw [List.takeWhile_cons_of_neg (by simp [h'])]; rfl
 | p :: L,k + 1,h,h1,h2=>by
  have h0:lt p.name s=true:=h1 0 (by omega)
  have ih:=pos_is (s:=s) (L:=L) (k:=k) (by simpa using h) (fun t ht=>by simpa [nth] using h1 (t + 1) (by omega)) (fun hk=>by simpa [nth] using h2 (by simpa using hk))
  unfold pos at ih ⊢; rw [List.takeWhile_cons_of_pos (by simpa using h0),List.length_cons,ih]
theorem pos_le (L:List PPart) (s:ByteArray):pos L s≤L.length:=by
 unfold pos; exact List.Sublist.length_le (List.takeWhile_sublist _)
theorem pos_lt {s:ByteArray} : ∀ {L:List PPart} {t : Nat},t < pos L s→lt (nth L t).name s=true
 | [],t,h=>by simp [pos] at h
 | p :: L,t,h=>by
  unfold pos at h
  cases h0:lt p.name s with
  | false=>rw [List.takeWhile_cons_of_neg (by simp [h0])] at h; simp at h
  | true =>
   rw [List.takeWhile_cons_of_pos (by simpa using h0),List.length_cons] at h
   cases t with
   | zero=>exact h0
   | succ t=>simpa [nth] using pos_lt (L:=L) (t:=t) (by unfold pos; omega)
theorem pos_at {s:ByteArray} : ∀ {L:List PPart},pos L s < L.length→lt (nth L (pos L s)).name s=false
 | [],h=>by simp [pos] at h
 | p :: L,h=>by
  cases h0:lt p.name s with
  | false =>
   have e:pos (p :: L) s=0:=by unfold pos; rw [List.takeWhile_cons_of_neg (by simp [h0])]; rfl
   rw [e]; exact h0
  | true =>
   have e:pos (p :: L) s=pos L s + 1:=by unfold pos; rw [List.takeWhile_cons_of_pos (by simpa using h0),List.length_cons]
   rw [e] at h ⊢
   simpa [nth] using pos_at (L:=L) (by simpa using h)
def hit (L:List PPart) (s:ByteArray):Bool:=decide (pos L s < L.length) && eqs (nth L (pos L s)).name s
def ins (L:List PPart) (s:ByteArray):List PPart:=if hit L s then L else L.take (pos L s) ++ newP s :: L.drop (pos L s)
theorem ins_hit {L:List PPart} {s:ByteArray} (h:hit L s=true):ins L s=L:=by unfold ins; rw [if_pos h]
theorem ins_len {L:List PPart} {s:ByteArray} (h:hit L s=false):(ins L s).length=L.length + 1:=by
 unfold ins; rw [h]
 simp
 have:=pos_le L s; omega
theorem ins_nth {L:List PPart} {s:ByteArray} (h:hit L s=false) {i:Nat} : nth (ins L s) i=if i < pos L s then nth L i else if i=pos L s then newP s else nth L (i - 1):=by
 have hp:=pos_le L s
 unfold ins; rw [h]
 simp only [Bool.false_eq_true,if_false]
 unfold nth
 simp only [List.getD]
 by_cases h1:i < pos L s
 ·rw [if_pos h1,List.getElem?_append_left (by simp; omega),List.getElem?_take,if_pos h1]
 ·rw [if_neg h1,List.getElem?_append_right (by simp; omega)]
  have hl:(L.take (pos L s)).length=pos L s:=by simp; omega
  rw [hl]
  by_cases h2:i=pos L s
  ·rw [if_pos h2,h2,Nat.sub_self]; rfl
  ·rw [if_neg h2]
   obtain ⟨k,rfl⟩:∃ k,i=pos L s + 1 + k:=⟨i - (pos L s + 1),by omega⟩
   rw [show pos L s + 1 + k - pos L s=k + 1 by omega,List.getElem?_cons_succ,List.getElem?_drop,show pos L s + 1 + k - 1=pos L s + k by omega]
theorem ins_pos {L:List PPart} {s:ByteArray} : pos L s < (ins L s).length∧(nth (ins L s) (pos L s)).name=s:=by
 cases h:hit L s with
 | true =>
  rw [ins_hit h]
  unfold hit at h
  rw [Bool.and_eq_true,decide_eq_true_eq] at h
  exact ⟨h.1,eqs_iff.1 h.2⟩
 | false =>
  refine ⟨by rw [ins_len h]; have:=pos_le L s; omega,?_⟩
  rw [ins_nth h,if_neg (by omega),if_pos rfl]; rfl
theorem ins_rise {L:List PPart} {s:ByteArray} (hL:Rise L):Rise (ins L s):=by
 cases h:hit L s with
 | true=>rw [ins_hit h]; exact hL
 | false =>
  have hge:∀ t,pos L s≤t→t < L.length→lt s (nth L t).name=true:=fun t ht htl=>by
   have hp:pos L s < L.length:=by omega
   have h1:=pos_at hp
   have h2:lt s (nth L (pos L s)).name=true:=by
    cases h3:lt s (nth L (pos L s)).name with
    | true=>rfl
    | false =>
     have:=lt_tri h1 h3
     unfold hit at h
     rw [decide_eq_true hp,eqs_iff.2 this] at h; cases h
   rcases Nat.lt_or_eq_of_le ht with h3 | h3
   ·exact lt_trans h2 (hL _ _ h3 htl)
   ·rw [← h3]; exact h2
  intro i j hij hj
  rw [ins_len h] at hj
  rw [ins_nth h,ins_nth h]
  by_cases hj1:j < pos L s
  ·rw [if_pos (by omega),if_pos hj1]; exact hL i j hij (by have:=pos_le L s; omega)
  ·rw [if_neg hj1]
   by_cases hj2:j=pos L s
   ·rw [if_pos hj2,if_pos (show i < pos L s by omega)]; exact pos_lt (s:=s) (show i < pos L s by omega)
   ·rw [if_neg hj2]
    by_cases hi1:i < pos L s
    ·rw [if_pos hi1]; exact lt_trans (pos_lt hi1) (hge (j - 1) (by omega) (by omega))
    ·rw [if_neg hi1]
     by_cases hi2:i=pos L s
     ·rw [if_pos hi2]; exact hge (j - 1) (by omega) (by omega)
     ·rw [if_neg hi2]; exact hL (i - 1) (j - 1) (by omega) (by omega)
theorem set_rise {L:List PPart} {t : Nat} {p:PPart} (hL:Rise L) (ht:t < L.length) (hp:p.name=(nth L t).name):Rise (L.set t p):=by
 intro i j hij hj
 rw [List.length_set] at hj
 rw [nth_set ht,nth_set ht]
 have e:∀ q,(if q=t then p else nth L q).name=(nth L q).name:=fun q=>by split <;> simp_all
 rw [e,e]; exact hL i j hij hj
def partK (p:PPart) (svc:Int) (t:PSeen) (k:Nat):PPart:=⟨p.name,p.fs ++ (List.range k).map t.F,p.os ++ (List.range k).map (fun j=>⟨svc,t.own,t.O j⟩),p.hs ++ [⟨svc,t.own,⟨#[]⟩⟩]⟩
def clash (p:PPart) (t:PSeen) (k:Nat):Bool:=(p.fs ++ (List.range k).map t.F).any (fun f=>eqs f.name (t.F k).name)
def errP (p:PPart) (t:PSeen):Int:=if (List.range t.nf).any (clash p t) then 6 else 0
def stepT (svc:Int) (L:List PPart) (t:PSeen):List PPart:=(ins L t.name).set (pos L t.name) (partK (nth (ins L t.name) (pos L t.name)) svc t t.nf)
def errT (L:List PPart) (t:PSeen):Int:=errP (nth (ins L t.name) (pos L t.name)) t
def foldT (svc:Int) (L:List PPart) (S:Nat→PSeen):Nat→List PPart
 | 0=>L
 | k + 1=>stepT svc (foldT svc L S k) (S k)
def errV (svc:Int) (L:List PPart) (S:Nat→PSeen) (n:Nat):Int:=(fault n (fun k=>errT (foldT svc L S k) (S k))).1
def allP (n:Nat→Nat) (S:Nat→Nat→PSeen):Nat→List PPart
 | 0=>[]
 | i + 1=>foldT (i:Int) (allP n S i) (S i) (n i)
def errA (n:Nat→Nat) (S:Nat→Nat→PSeen) (i:Nat):Int:=errV (i:Int) (allP n S i) (S i) (n i)
theorem step_rise {svc:Int} {L:List PPart} {t : PSeen} (h:Rise L):Rise (stepT svc L t):=set_rise (ins_rise h) ins_pos.1 rfl
theorem fold_rise {svc:Int} {L:List PPart} {S:Nat→PSeen} (h:Rise L):∀ k,Rise (foldT svc L S k)
 | 0=>h
 | k + 1=>step_rise (fold_rise h k)
theorem all_rise {n:Nat→Nat} {S:Nat→Nat→PSeen} : ∀ i,Rise (allP n S i)
 | 0=>fun _ _ _ h=>by simp [allP] at h
 | i + 1=>fold_rise (all_rise i) _
structure Few (L:List PPart) (k:Nat):Prop where
 len:L.length≤k
 fs:∀ i,i < L.length→(nth L i).fs.length≤10 * k
 os:∀ i,i < L.length→(nth L i).os.length≤10 * k
 hs:∀ i,i < L.length→(nth L i).hs.length≤k
theorem Few.ins {L:List PPart} {k:Nat} (h:Few L k) (s:ByteArray):(ins L s).length≤k + 1∧∀ i,i < (Go.Proofs.YtjjggefmmeminacGreat.ins L s).length→(nth (Go.Proofs.YtjjggefmmeminacGreat.ins L s) i).fs.length≤10 * k∧(nth (Go.Proofs.YtjjggefmmeminacGreat.ins L s) i).os.length≤10 * k∧(nth (Go.Proofs.YtjjggefmmeminacGreat.ins L s) i).hs.length≤k:=by
 cases hh:hit L s with
 | true=>rw [ins_hit hh]; exact ⟨Nat.le_succ_of_le h.len,fun i hi=>⟨h.fs i hi,h.os i hi,h.hs i hi⟩⟩
 | false =>
  rw [ins_len hh]
  refine ⟨Nat.succ_le_succ h.len,fun i hi=>?_⟩
  rw [ins_nth hh]
  by_cases h1:i < pos L s
  ·have:=pos_le L s
   rw [if_pos h1]; exact ⟨h.fs i (by omega),h.os i (by omega),h.hs i (by omega)⟩
  ·rw [if_neg h1]
   by_cases h2:i=pos L s
   ·rw [if_pos h2]; exact ⟨Nat.zero_le _,Nat.zero_le _,Nat.zero_le _⟩
   ·rw [if_neg h2]; exact ⟨h.fs _ (by omega),h.os _ (by omega),h.hs _ (by omega)⟩
theorem Few.step {L:List PPart} {k:Nat} (h:Few L k) {svc:Int} {t : PSeen} (ht:t.nf≤10):Few (stepT svc L t) (k + 1):=by
 obtain ⟨h1,h2⟩:=h.ins t.name
 have hp:=(ins_pos (L:=L) (s:=t.name)).1
 have hl:(stepT svc L t).length=(Go.Proofs.YtjjggefmmeminacGreat.ins L t.name).length:=by unfold stepT; rw [List.length_set]
 have hn:∀ i,i < (stepT svc L t).length→(nth (stepT svc L t) i).fs.length≤10 * (k + 1)∧(nth (stepT svc L t) i).os.length≤10 * (k + 1)∧(nth (stepT svc L t) i).hs.length≤k + 1:=fun i hi=>by
  rw [hl] at hi
  obtain ⟨q1,q2,q3⟩:=h2 i hi
  unfold stepT
  rw [nth_set hp]
  by_cases e:i=pos L t.name
  ·rw [if_pos e,← e]
   unfold partK
   simp only [List.length_append,List.length_map,List.length_range,List.length_singleton]
   exact ⟨by omega,by omega,by omega⟩
  ·rw [if_neg e]; exact ⟨by omega,by omega,by omega⟩
 exact ⟨by rw [hl]; exact h1,fun i hi=>(hn i hi).1,fun i hi=>(hn i hi).2.1,fun i hi=>(hn i hi).2.2⟩
theorem Few.fold {L:List PPart} {k:Nat} (h:Few L k) {svc:Int} {S:Nat→PSeen} : ∀ j,(∀ q,q < j→(S q).nf≤10)→Few (foldT svc L S j) (k + j)
 | 0,_=>h
 | j + 1,hS=>(Few.fold h j (fun q hq=>hS q (by omega))).step (hS j (by omega))
theorem Few.mono {L:List PPart} {k k':Nat} (h:Few L k) (hk:k≤k'):Few L k' :=
 ⟨Nat.le_trans h.len hk,fun i hi=>Nat.le_trans (h.fs i hi) (by omega),fun i hi=>Nat.le_trans (h.os i hi) (by omega),fun i hi=>Nat.le_trans (h.hs i hi) hk⟩
theorem few_all {n:Nat→Nat} {S:Nat→Nat→PSeen} : ∀ i,(∀ q,q < i→n q≤8)→(∀ q,q < i→∀ j,j < n q→(S q j).nf≤10)→Few (allP n S i) (8 * i)
 | 0,_,_=>⟨Nat.le_refl _,fun i hi=>by simp [allP] at hi,fun i hi=>by simp [allP] at hi,fun i hi=>by simp [allP] at hi⟩
 | i + 1,h1,h2=>((few_all i (fun q hq=>h1 q (by omega)) (fun q hq=>h2 q (by omega))).fold (n i) (fun q hq=>h2 i (by omega) q hq)).mono (by have:=h1 i (by omega); omega)
def mfind (L:List PPart) (name:ByteArray):Int:=idx L.length (fun i=>eqs (nth L i).name name)
def fsN (p:PPart) (j:Nat):LField:=p.fs.getD j dF
def osN (p:PPart) (j:Nat):POwner:=p.os.getD j dO
def hsN (p:PPart) (j:Nat):POwner:=p.hs.getD j dO
end Go.Proofs.YtjjggefmmeminacGreat
namespace Go.Proofs.YtjjggefmmeminacGreat
open Go.RowKit Go.Sort
theorem seeF_right {n m:Nat} {T:Nat→LType} {C:Nat→PChange} (h:(seeF n T m C).1=0):RightS n (initS T):=by
 unfold seeF at h
 by_cases h1:(wrongS n T).1≠0
 ·rw [if_pos h1] at h; exact absurd h h1
 ·exact right_iff.1 (Decidable.not_not.1 h1)
theorem app_own {n:Nat} {S:Nat→PSeen} {c:PChange} (i:Nat):((appS n S c).2 i).own=(S i).own∧((appS n S c).2 i).nf≤(S i).nf:=by
 unfold appS
 split
 ·exact ⟨rfl,Nat.le_refl _⟩
 split
 ·exact ⟨rfl,Nat.le_refl _⟩
 split
 ·unfold callTS
  split
  ·exact ⟨rfl,Nat.le_refl _⟩
  ·exact ⟨rfl,Nat.le_refl _⟩
 ·unfold fieldS
  split
  ·exact ⟨rfl,Nat.le_refl _⟩
  split
  ·unfold callFS
   split
   ·exact ⟨rfl,Nat.le_refl _⟩
   ·exact ⟨rfl,Nat.le_refl _⟩
  ·show (hideF S _ _ i).own=_∧(hideF S _ _ i).nf≤_
   unfold hideF
   split
   ·rename_i h; rw [h]; exact ⟨rfl,Nat.sub_le _ _⟩
   ·exact ⟨rfl,Nat.le_refl _⟩
theorem run_own {n:Nat} {S:Nat→PSeen} {C:Nat→PChange} (i:Nat):∀ k,(runS n S C k i).own=(S i).own∧(runS n S C k i).nf≤(S i).nf
 | 0=>⟨rfl,Nat.le_refl _⟩
 | k + 1=>by
  obtain ⟨h1,h2⟩:=run_own i k (n:=n) (S:=S) (C:=C)
  obtain ⟨h3,h4⟩:=app_own i (n:=n) (S:=runS n S C k) (c:=C k)
  exact ⟨h3.trans h1,Nat.le_trans h4 h2⟩
end Go.Proofs.YtjjggefmmeminacGreat
