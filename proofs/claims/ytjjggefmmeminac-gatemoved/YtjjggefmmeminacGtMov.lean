import Derived.Test.YtjjggefmmeminacJGp
namespace Go.Proofs.Ytjjggefmmeminac
open Go.RowKit Go.Sort Go.PlainAid
structure Split (n c0:Nat) (V V':Nat→LServ) (kt:Nat→Nat):Prop where
 lt:c0 < n
 other:∀ c,c < n→c≠c0→V' c=V c
 nc:(V c0).nc=0
 xnc:(V' c0).nc=0
 ync:(V' n).nc=0
 xnt:(V' c0).nt=(V c0).nt
 ynt:(V' n).nt=(V c0).nt
 kle:∀ j,j < (V c0).nt→kt j≤((V c0).T j).nf
 xT:∀ j,j < (V c0).nt→((V' c0).T j).name=((V c0).T j).name∧((V' c0).T j).nf=kt j∧∀ q,q < kt j→((V' c0).T j).F q=((V c0).T j).F (0 + q)
 yT:∀ j,j < (V c0).nt→((V' n).T j).name=((V c0).T j).name∧((V' n).T j).nf=((V c0).T j).nf - kt j∧∀ q,q < ((V c0).T j).nf - kt j→((V' n).T j).F q=((V c0).T j).F (kt j + q)
 xnx:(V' c0).nx=(V c0).nx
 ynx:(V' n).nx=(V c0).nx
 xX:∀ i,i < (V c0).nx→((V' c0).X i).type=((V c0).X i).type∧((V' c0).X i).key=((V c0).X i).key∧∀ t:Nat,find (V c0).nt (V c0).T ((V c0).X i).type=(t:Int)→((V' c0).X i).nv=kt t∧∀ q,q < kt t→((V' c0).X i).V q=((V c0).X i).V (0 + q)
 yX:∀ i,i < (V c0).nx→((V' n).X i).type=((V c0).X i).type∧((V' n).X i).key=((V c0).X i).key∧∀ t:Nat,find (V c0).nt (V c0).T ((V c0).X i).type=(t:Int)→((V' n).X i).nv=((V c0).T t).nf - kt t∧∀ q,q < ((V c0).T t).nf - kt t→((V' n).X i).V q=((V c0).X i).V (kt t + q)
theorem seen_plain {s:LServ} (h:s.nc=0):seenS s=initS s.T:=by unfold seenS; rw [h]; rfl
structure SubS (s s':LServ) (g:Nat→Nat):Prop where
 nc:s'.nc=0
 nt:s'.nt=s.nt
 name:∀ j,j < s.nt→(s'.T j).name=(s.T j).name
 nf:∀ j,j < s.nt→g j + (s'.T j).nf≤(s.T j).nf
 F:∀ j,j < s.nt→∀ q,q < (s'.T j).nf→(s'.T j).F q=(s.T j).F (g j + q)
 nx:s'.nx=s.nx
 type:∀ i,i < s.nx→(s'.X i).type=(s.X i).type
 key:∀ i,i < s.nx→(s'.X i).key=(s.X i).key
 nv:∀ i,i < s.nx→∀ t:Nat,find s.nt s.T (s.X i).type=(t:Int)→(s'.X i).nv=(s'.T t).nf
 V:∀ i,i < s.nx→∀ t:Nat,find s.nt s.T (s.X i).type=(t:Int)→∀ q,q < (s'.T t).nf→(s'.X i).V q=(s.X i).V (g t + q)
theorem Split.x {n c0:Nat} {V V':Nat→LServ} {kt:Nat→Nat} (h:Split n c0 V V' kt):SubS (V c0) (V' c0) (fun _=>0) :=
 ⟨h.xnc,h.xnt,fun j hj=>(h.xT j hj).1,fun j hj=>by rw [(h.xT j hj).2.1,Nat.zero_add]; exact h.kle j hj,fun j hj q hq=>(h.xT j hj).2.2 q (by rw [← (h.xT j hj).2.1]; exact hq),h.xnx,fun i hi=>(h.xX i hi).1,fun i hi=>(h.xX i hi).2.1,
  fun i hi t ht=>by
   have hl:t < (V c0).nt:=by have:=idx_in (p:=fun k=>eqs ((V c0).T k).name ((V c0).X i).type) (n:=(V c0).nt) (by have h':idx (V c0).nt (fun k=>eqs ((V c0).T k).name ((V c0).X i).type)=(t:Int):=ht; omega); have h':idx (V c0).nt (fun k=>eqs ((V c0).T k).name ((V c0).X i).type)=(t:Int):=ht; rw [h',Int.toNat_natCast] at this; exact this.1
   rw [((h.xX i hi).2.2 t ht).1,(h.xT t hl).2.1],
  fun i hi t ht q hq=>by
   have hl:t < (V c0).nt:=by have:=idx_in (p:=fun k=>eqs ((V c0).T k).name ((V c0).X i).type) (n:=(V c0).nt) (by have h':idx (V c0).nt (fun k=>eqs ((V c0).T k).name ((V c0).X i).type)=(t:Int):=ht; omega); have h':idx (V c0).nt (fun k=>eqs ((V c0).T k).name ((V c0).X i).type)=(t:Int):=ht; rw [h',Int.toNat_natCast] at this; exact this.1
   exact ((h.xX i hi).2.2 t ht).2 q (by rw [← (h.xT t hl).2.1]; exact hq)⟩
theorem Split.y {n c0:Nat} {V V':Nat→LServ} {kt:Nat→Nat} (h:Split n c0 V V' kt):SubS (V c0) (V' n) kt :=
 ⟨h.ync,h.ynt,fun j hj=>(h.yT j hj).1,fun j hj=>by rw [(h.yT j hj).2.1]; have:=h.kle j hj; omega,fun j hj q hq=>(h.yT j hj).2.2 q (by rw [← (h.yT j hj).2.1]; exact hq),h.ynx,fun i hi=>(h.yX i hi).1,fun i hi=>(h.yX i hi).2.1,
  fun i hi t ht=>by
   have hl:t < (V c0).nt:=by have:=idx_in (p:=fun k=>eqs ((V c0).T k).name ((V c0).X i).type) (n:=(V c0).nt) (by have h':idx (V c0).nt (fun k=>eqs ((V c0).T k).name ((V c0).X i).type)=(t:Int):=ht; omega); have h':idx (V c0).nt (fun k=>eqs ((V c0).T k).name ((V c0).X i).type)=(t:Int):=ht; rw [h',Int.toNat_natCast] at this; exact this.1
   rw [((h.yX i hi).2.2 t ht).1,(h.yT t hl).2.1],
  fun i hi t ht q hq=>by
   have hl:t < (V c0).nt:=by have:=idx_in (p:=fun k=>eqs ((V c0).T k).name ((V c0).X i).type) (n:=(V c0).nt) (by have h':idx (V c0).nt (fun k=>eqs ((V c0).T k).name ((V c0).X i).type)=(t:Int):=ht; omega); have h':idx (V c0).nt (fun k=>eqs ((V c0).T k).name ((V c0).X i).type)=(t:Int):=ht; rw [h',Int.toNat_natCast] at this; exact this.1
   exact ((h.yX i hi).2.2 t ht).2 q (by rw [← (h.yT t hl).2.1]; exact hq)⟩
theorem SubS.right {s s':LServ} {g:Nat→Nat} (h:SubS s s' g) (hR:RightS s.nt (initS s.T)):RightQ s'.nt (fun i=>(s'.T i).name) (fun i=>(s'.T i).nf) (fun i=>(s'.T i).F):=by
 rw [h.nt]
 refine ⟨hR.few,fun i hi=>?_,fun i j hij hj=>?_,fun i hi=>⟨?_,fun q hq=>?_,fun a b hab hb=>?_,fun q hq=>?_⟩⟩
 ·show named (s'.T i).name=true
  rw [h.name i hi]; exact hR.nam i hi
 ·show (s'.T i).name≠(s'.T j).name
  rw [h.name i (by omega),h.name j hj]; exact hR.one i j hij hj
 ·have h1:=h.nf i hi
  have h2:(s.T i).nf≤10:=(hR.fld i hi).few
  show (s'.T i).nf≤10
  omega
 ·have h1:=h.nf i hi
  have hq':q < (s'.T i).nf:=hq
  show named ((s'.T i).F q).name=true
  rw [h.F i hi q hq']; exact (hR.fld i hi).nam (g i + q) (by show g i + q < (s.T i).nf; omega)
 ·have h1:=h.nf i hi
  have hb':b < (s'.T i).nf:=hb
  show ((s'.T i).F a).name≠((s'.T i).F b).name
  rw [h.F i hi a (by omega),h.F i hi b hb']
  exact (hR.fld i hi).one (g i + a) (g i + b) (by omega) (by show g i + b < (s.T i).nf; omega)
 ·have h1:=h.nf i hi
  have hq':q < (s'.T i).nf:=hq
  show Fits s.nt (fun i=>(s'.T i).name) ((s'.T i).F q)
  rw [h.F i hi q hq']
  rcases (hR.fld i hi).fit (g i + q) (by show g i + q < (s.T i).nf; omega) with h2 | ⟨h2,k,hk,e⟩
  ·exact .inl h2
  ·refine .inr ⟨h2,k,hk,?_⟩
   show (s'.T k).name=_
   rw [h.name k hk]; exact e
theorem SubS.find {s s':LServ} {g:Nat→Nat} (h:SubS s s' g) (nm:ByteArray):find s'.nt s'.T nm=find s.nt s.T nm:=by
 rw [h.nt]; exact idx_congr fun i hi=>by rw [h.name i hi]
theorem SubS.same {s s':LServ} {g:Nat→Nat} (h:SubS s s' g) {m:Nat} (hm:m≤s.nx) (ty key:ByteArray):idx m (sameThing s'.X ty key)=idx m (sameThing s.X ty key) :=
 idx_congr fun i hi=>by unfold sameThing; rw [h.type i (by omega),h.key i (by omega)]
theorem SubS.has {s s':LServ} {g:Nat→Nat} (h:SubS s s' g) (ty key:ByteArray):hasT s' ty key=hasT s ty key:=by
 unfold hasT; rw [h.nx,h.same (Nat.le_refl _)]
theorem SubS.serv {s s':LServ} {g:Nat→Nat} (h:SubS s s' g) (hw:wrongServ s=0):wrongServ s'=0:=by
 have hs:(seeE s).1=0∧(wrongThings s.nt s.T s.nx s.X).1=0:=by
  unfold wrongServ at hw
  by_cases h1:(seeE s).1≠0
  ·rw [if_pos h1] at hw; exact absurd hw h1
  ·rw [if_neg h1] at hw; exact ⟨Decidable.not_not.1 h1,hw⟩
 have hR:=seeF_right hs.1
 have e0:(seeE s').1=0:=by
  unfold seeE seeF
  have:=right_iff.2 (h.right hR)
  rw [if_neg (fun h'=>h' this),h.nc,if_neg (by omega)]
  rfl
 unfold wrongServ
 rw [if_neg (fun h'=>h' e0)]
 unfold wrongThings
 by_cases h6:60 < s'.nx
 ·have:=hs.2
  unfold wrongThings at this
  rw [h.nx] at h6
  rw [if_pos h6] at this
  cases this
 rw [if_neg h6,fault_zero]
 intro i hi
 rw [h.nx] at hi
 obtain ⟨-,⟨t,ht⟩,hk⟩:=thing_right hs.2 hi
 have hthing:hasThing i s.X (s.X i).type (s.X i).key=false:=by
  have h1:=hs.2
  unfold wrongThings at h1
  by_cases h7:60 < s.nx
  ·rw [if_pos h7] at h1; cases h1
  rw [if_neg h7] at h1
  have h2:=fault_zero.1 h1 i hi
  unfold wrongThing at h2
  rw [if_neg (by rw [ht.find]; omega)] at h2
  cases hh:hasThing i s.X (s.X i).type (s.X i).key with
  | false=>rfl
  | true=>rw [hh,Bool.or_true,if_pos rfl] at h2; cases h2
 unfold wrongThing
 rw [h.find,h.type i hi,h.key i hi,ht.find,if_neg (by omega),Int.toNat_natCast]
 have hth':hasThing i s'.X (s.X i).type (s.X i).key=false:=by
  unfold hasThing at hthing ⊢
  rw [h.same (by omega)]; exact hthing
 rw [hk,hth',if_neg (by simp),h.nv i hi t ht.find,if_neg (fun h'=>h' rfl),fault_zero]
 intro j hj
 have hl:=ht.lt
 rw [h.V i hi t ht.find j hj,h.F t hl j hj]
 have h1:=h.nf t hl
 have h2:=hs.2
 unfold wrongThings at h2
 by_cases h7:60 < s.nx
 ·rw [if_pos h7] at h2; cases h2
 rw [if_neg h7] at h2
 have h3:=fault_zero.1 h2 i hi
 unfold wrongThing at h3
 rw [ht.find,if_neg (by omega),Int.toNat_natCast,hk,hthing,if_neg (by simp),if_neg (fun h'=>h' ht.nv)] at h3
 exact fault_zero.1 h3 (g t + j) (by omega)
theorem flatMap_split {α:Type} {g g':Nat→List α} {h:List α} {c0:Nat} : ∀ (n:Nat),c0 < n→(∀ q,q < n→q≠c0→g' q=g q)→(g' c0 ++ h).Perm (g c0)→((List.range n).flatMap g' ++ h).Perm ((List.range n).flatMap g)
 | 0,hc,_,_=>absurd hc (Nat.not_lt_zero _)
 | n + 1,hc,hq,hp=>by
  rw [List.range_succ,List.flatMap_append,List.flatMap_append,List.flatMap_singleton,List.flatMap_singleton]
  by_cases e:c0=n
  ·subst e
   have e1:(List.range c0).flatMap g'=(List.range c0).flatMap g:=by
    rw [List.flatMap_def,List.flatMap_def,List.map_congr_left fun q hq'=>hq q (by have:=List.mem_range.1 hq'; omega) (by have:=List.mem_range.1 hq'; omega)]
   rw [e1,List.append_assoc]
   exact hp.append_left _
  ·have ih:=flatMap_split n (by omega) (fun q h1 h2=>hq q (by omega) h2) hp
   rw [hq n (by omega) (fun h=>e h.symm),List.append_assoc]
   refine (List.Perm.append_left _ List.perm_append_comm).trans ?_
   rw [← List.append_assoc]
   exact ih.append_right _
theorem flatMap_two {α β:Type} {f g:α→List β} : ∀ (l:List α),(l.flatMap f ++ l.flatMap g).Perm (l.flatMap fun x=>f x ++ g x)
 | []=>by simp
 | x :: l=>by
  rw [List.flatMap_cons,List.flatMap_cons,List.flatMap_cons,List.append_assoc,List.append_assoc]
  refine List.Perm.append_left _ ?_
  rw [← List.append_assoc]
  refine (List.Perm.append_right _ List.perm_append_comm).trans ?_
  rw [List.append_assoc]
  exact List.Perm.append_left _ (flatMap_two l)
theorem nameL_append (nm:ByteArray) (a b:List PSeen):nameL nm (a ++ b)=nameL nm a ++ nameL nm b:=by unfold nameL; rw [List.filter_append,List.flatMap_append]
theorem nameL_flat (nm:ByteArray) (f:Nat→List PSeen):∀ (l:List Nat),nameL nm (l.flatMap f)=l.flatMap (fun q=>nameL nm (f q))
 | []=>rfl
 | x :: l=>by rw [List.flatMap_cons,List.flatMap_cons,nameL_append,nameL_flat nm f l]
def fNames (nm:ByteArray) (t:PSeen):List ByteArray:=if eqs t.name nm=true then (List.range t.nf).map (fun q=>(t.F q).name) else []
theorem nameL_map (nm:ByteArray) (S:Nat→PSeen):∀ (l:List Nat),nameL nm (l.map S)=l.flatMap (fun j=>fNames nm (S j))
 | []=>rfl
 | x :: l=>by
  have ih:=nameL_map nm S l
  rw [List.map_cons,List.flatMap_cons,← ih]
  unfold nameL fNames
  rw [List.filter_cons]
  by_cases h:eqs (S x).name nm=true
  ·rw [if_pos h,if_pos h,List.flatMap_cons]
  ·rw [if_neg h,if_neg h,List.nil_append]
theorem Split.nod {n c0:Nat} {V V':Nat→LServ} {kt:Nat→Nat} (h:Split n c0 V V' kt) (hN:Nod (ents (ntS V) (seenA V) n)):Nod (ents (ntS V') (seenA V') (n + 1)):=fun nm=>by
 have e0:=hN nm
 rw [PL_names,ents_snd,nameL_flat] at e0
 rw [PL_names,ents_snd,List.range_succ,List.flatMap_append,List.flatMap_singleton,nameL_append,nameL_flat]
 refine (flatMap_split (g:=fun q=>nameL nm (blk V q)) n h.lt (fun q hq hne=>?_) ?_).nodup_iff.2 e0
 ·show nameL nm (blk V' q)=nameL nm (blk V q)
  unfold blk ntS seenA; rw [h.other q hq hne]
 ·show (nameL nm (blk V' c0) ++ nameL nm (blk V' n)).Perm (nameL nm (blk V c0))
  unfold blk ntS seenA
  rw [nameL_map,nameL_map,nameL_map,h.xnt,h.ynt,seen_plain h.nc,seen_plain h.xnc,seen_plain h.ync]
  refine (flatMap_two _).trans ?_
  have e1:(List.range (V c0).nt).flatMap (fun j=>fNames nm (initS (V' c0).T j) ++ fNames nm (initS (V' n).T j))=(List.range (V c0).nt).flatMap (fun j=>fNames nm (initS (V c0).T j)):=by
   rw [List.flatMap_def,List.flatMap_def,List.map_congr_left fun j hj=>?_]
   have hj':j < (V c0).nt:=List.mem_range.1 hj
   obtain ⟨x1,x2,x3⟩:=h.xT j hj'
   obtain ⟨y1,y2,y3⟩:=h.yT j hj'
   have hk:=h.kle j hj'
   unfold fNames initS
   show (if eqs ((V' c0).T j).name nm=true then (List.range ((V' c0).T j).nf).map (fun q=>(((V' c0).T j).F q).name) else []) ++ (if eqs ((V' n).T j).name nm=true then (List.range ((V' n).T j).nf).map (fun q=>(((V' n).T j).F q).name) else [])=if eqs ((V c0).T j).name nm=true then (List.range ((V c0).T j).nf).map (fun q=>(((V c0).T j).F q).name) else []
   rw [x1,y1,x2,y2]
   by_cases hnm:eqs ((V c0).T j).name nm=true
   ·rw [if_pos hnm,if_pos hnm,if_pos hnm]
    have er:((V c0).T j).nf=kt j + (((V c0).T j).nf - kt j):=by omega
    conv=>rhs; rw [er,List.range_add,List.map_append,List.map_map]
    congr 1
    ·exact List.map_congr_left fun q hq=>by rw [x3 q (List.mem_range.1 hq),Nat.zero_add]
    ·exact List.map_congr_left fun q hq=>by rw [y3 q (List.mem_range.1 hq)]; rfl
   ·rw [if_neg hnm,if_neg hnm,if_neg hnm]; rfl
  rw [e1]
theorem Split.all {n c0:Nat} {V V':Nat→LServ} {kt:Nat→Nat} (h:Split n c0 V V' kt) (h0:(allF n V).1=0) (hn:n < 5):(allF (n + 1) V').1=0:=by
 obtain ⟨-,h2,h3⟩:=all_iff.1 h0
 refine all_iff.2 ⟨by omega,fun j hj=>?_,h.nod h3⟩
 by_cases e:j=c0
 ·subst e; exact h.x.serv (h2 j h.lt)
 ·by_cases e2:j=n
  ·subst e2; exact h.y.serv (h2 c0 h.lt)
  ·rw [h.other j (by omega) e]; exact h2 j (by omega)
theorem sameP_of {V V':Nat→LServ} {E E':List (Int × PSeen)} (hN:Nod E) (hN':Nod E') (nm:ByteArray)
  (to':∀ x,x ∈ PL nm E→∃ x',x' ∈ PL nm E'∧x'.1=x.1∧∀ key,hasT (V x.2.svc.toNat) x.2.type key=hasT (V' x'.2.svc.toNat) x'.2.type key∧(hasT (V x.2.svc.toNat) x.2.type key=true→(valT (thingT (V x.2.svc.toNat) x.2.type key) x.2.field).text=(valT (thingT (V' x'.2.svc.toNat) x'.2.type key) x'.2.field).text∧keysV (valT (thingT (V x.2.svc.toNat) x.2.type key) x.2.field)=keysV (valT (thingT (V' x'.2.svc.toNat) x'.2.type key) x'.2.field)))
  (back:∀ x',x' ∈ PL nm E'→∃ x,x ∈ PL nm E∧x.1=x'.1) (there:∀ key,thereP V (mkP nm E) key=thereP V' (mkP nm E') key):SameP V V' (mkP nm E) (mkP nm E'):=by
 have key:∀ f,¬ fieldIdx (mkP nm E).fs.length (fsN (mkP nm E)) f < 0→∃ x x',x ∈ PL nm E∧x' ∈ PL nm E'∧x'.1=x.1∧fOf (mkP nm E) f=x.1∧oOf (mkP nm E) f=x.2∧fOf (mkP nm E') f=x.1∧oOf (mkP nm E') f=x'.2∧∀ key,hasT (V x.2.svc.toNat) x.2.type key=hasT (V' x'.2.svc.toNat) x'.2.type key∧(hasT (V x.2.svc.toNat) x.2.type key=true→(valT (thingT (V x.2.svc.toNat) x.2.type key) x.2.field).text=(valT (thingT (V' x'.2.svc.toNat) x'.2.type key) x'.2.field).text∧keysV (valT (thingT (V x.2.svc.toNat) x.2.type key) x.2.field)=keysV (valT (thingT (V' x'.2.svc.toNat) x'.2.type key) x'.2.field)):=fun f hf=>by
  obtain ⟨x,hx,rfl⟩:=(fidx_char hN nm f).1 hf
  obtain ⟨x',hx',e1,e2⟩:=to' x hx
  obtain ⟨-,a1,a2⟩:=fof_char hN hx
  obtain ⟨-,b1,b2⟩:=fof_char hN' hx'
  rw [e1] at b1 b2
  exact ⟨x,x',hx,hx',e1,a1,a2,b1,b2,e2⟩
 refine ⟨fun f=>⟨?_,fun hf=>?_⟩,fun f k hf=>?_,fun f k hf hh=>?_,there⟩
 ·have : ¬ fieldIdx (mkP nm E).fs.length (fsN (mkP nm E)) f < 0 ↔ ¬ fieldIdx (mkP nm E').fs.length (fsN (mkP nm E')) f < 0:=by
   rw [fidx_char hN,fidx_char hN']
   constructor
   ·rintro ⟨x,hx,rfl⟩
    obtain ⟨x',hx',e1,-⟩:=to' x hx
    exact ⟨x',hx',by rw [e1]⟩
   ·rintro ⟨x,hx,rfl⟩
    obtain ⟨x',hx',e1⟩:=back x hx
    exact ⟨x',hx',by rw [e1]⟩
  exact Decidable.not_iff_not.1 this
 ·obtain ⟨x,x',-,-,-,a1,-,b1,-⟩:=key f hf
  exact a1.trans b1.symm
 ·obtain ⟨x,x',-,-,-,-,a2,-,b2,e⟩:=key f hf
  rw [a2,b2]; exact (e k).1
 ·obtain ⟨x,x',-,-,-,-,a2,-,b2,e⟩:=key f hf
  rw [a2] at hh
  rw [a2,b2]; exact (e k).2 hh
theorem ask_same {V V':Nat→LServ} {L L':List PPart} (hp:∀ nm,partIdx L.length (lpOf L) nm < 0 ↔ partIdx L'.length (lpOf L') nm < 0) (hs:∀ nm,¬ partIdx L.length (lpOf L) nm < 0→SameP V V' (pOf L nm) (pOf L' nm)) (d:Nat) (type key:ByteArray) (ps:List (Pick d)) :
  askE V L d type key ps=askE V' L' d type key ps∧(askE V L d type key ps=0→gots V L d (pOf L type) key ps=gots V' L' d (pOf L' type) key ps):=by
 have hc:cA L.length (lpOf L) d type key ps=cA L'.length (lpOf L') d type key ps:=cA_same (fun nm=>⟨hp nm,fun hn=>(hs nm hn).fld⟩) d type key ps
 unfold askE
 rw [← hc]
 by_cases h0:cA L.length (lpOf L) d type key ps=0
 ·have hne : ¬ cA L.length (lpOf L) d type key ps≠0:=fun h=>h h0
  rw [if_neg hne,if_neg hne]
  have hl:cL L.length (lpOf L) d type ps=0:=by
   unfold cA at h0
   by_cases hw:wA d type key ps≠0
   ·rw [if_pos hw] at h0; exact absurd h0 hw
   ·rw [if_neg hw] at h0; exact h0
  unfold cL at hl
  by_cases hq:partIdx L.length (lpOf L) type < 0
  ·rw [if_pos hq] at hl; cases hl
  rw [if_neg hq] at hl
  have hsq:=hs type hq
  rw [hsq.there key]
  exact ⟨rfl,fun _=>gots_same hs d _ _ key ps [] hsq hl⟩
 ·rw [if_pos h0,if_pos h0]
  exact ⟨rfl,fun h=>absurd h h0⟩
theorem SubS.val {s s':LServ} {g:Nat→Nat} (h:SubS s s' g) (hw:wrongServ s=0) {j q:Nat} (hj:j < s.nt) (hq:q < (s'.T j).nf) (key:ByteArray) (hh:hasT s (s.T j).name key=true) :
  valT (thingT s' (s.T j).name key) ((s'.T j).F q).name=valT (thingT s (s.T j).name key) ((s'.T j).F q).name:=by
 have hs:(seeE s).1=0∧(wrongThings s.nt s.T s.nx s.X).1=0:=by
  unfold wrongServ at hw
  by_cases h1:(seeE s).1≠0
  ·rw [if_pos h1] at hw; exact absurd hw h1
  ·rw [if_neg h1] at hw; exact ⟨Decidable.not_not.1 h1,hw⟩
 have hw':=h.serv hw
 have hs':(seeE s').1=0∧(wrongThings s'.nt s'.T s'.nx s'.X).1=0:=by
  unfold wrongServ at hw'
  by_cases h1:(seeE s').1≠0
  ·rw [if_pos h1] at hw'; exact absurd hw' h1
  ·rw [if_neg h1] at hw'; exact ⟨Decidable.not_not.1 h1,hw'⟩
 have hR:=seeF_right hs.1
 have hR':=seeF_right hs'.1
 obtain ⟨i,hi,hix,ex,ety,-⟩:=hasT_iff hh
 have ex':thingT s' (s.T j).name key=s'.X i:=by
  unfold thingT
  rw [h.nx,h.same (Nat.le_refl _),hix,Int.toNat_natCast]
 obtain ⟨-,⟨t,ht⟩,-⟩:=thing_right hs.2 hi
 obtain ⟨-,⟨t',ht'⟩,-⟩:=thing_right hs'.2 (by rw [h.nx]; exact hi)
 have hf:Go.Proofs.Ytjjggefmmeminac.find s.nt s.T (s.T j).name=(j:Int):=idx_hit hj (eqs_iff.2 rfl) fun a ha=>eqs_false.2 (hR.one a j ha hj)
 have e1:t=j:=by
  have h1:=ht.find
  rw [ety,hf] at h1
  omega
 have e2:t'=j:=by
  have h1:=ht'.find
  rw [h.find,h.type i hi,ety,hf] at h1
  omega
 rw [e1] at ht
 rw [e2] at ht'
 have hn:=h.nf j hj
 rw [ex,ex',(valT_right ht' (fun a b h1 h2=>(hR'.fld j ht'.lt).one a b h1 h2) hq).1,h.F j hj q hq,(valT_right ht (fun a b h1 h2=>(hR.fld j hj).one a b h1 h2) (by omega)).1]
 exact h.V i hi j ht.find q hq
theorem Split.mean {n c0:Nat} {V V':Nat→LServ} {kt:Nat→Nat} (h:Split n c0 V V' kt) (h0:(allF n V).1=0) (hn:n < 5) (d:Nat) (type key:ByteArray) (ps:List (Pick d)):meanE (n + 1) V' d type key ps=meanE n V d type key ps∧meanG (n + 1) V' d type key ps=meanG n V d type key ps:=by
 have h0':=h.all h0 hn
 have hN:=(all_iff.1 h0).2.2
 have hN':=(all_iff.1 h0').2.2
 have hwr:=(all_iff.1 h0).2.1
 have hC:Char (allP (ntS V) (seenA V) n) (ents (ntS V) (seenA V) n):=char_all n
 have hC':Char (allP (ntS V') (seenA V') (n + 1)) (ents (ntS V') (seenA V') (n + 1)):=char_all (n + 1)
 have hlt:=h.lt
 have eto:∀ e,e ∈ ents (ntS V) (seenA V) n→(∃ q j:Nat,q < n∧q≠c0∧e=((q:Int),seenS (V q) j)∧e ∈ ents (ntS V') (seenA V') (n + 1)∧V' q=V q)∨∃ j,j < (V c0).nt∧e=((c0:Int),initS (V c0).T j):=fun e he=>by
  obtain ⟨q,j,hq,hj,rfl⟩:=mem_ents.1 he
  by_cases e1:q=c0
  ·subst e1
   exact .inr ⟨j,hj,by show ((q:Int),seenS (V q) j)=_; rw [seen_plain h.nc]⟩
  ·refine .inl ⟨q,j,hq,e1,rfl,mem_ents.2 ⟨q,j,by omega,?_,?_⟩,h.other q hq e1⟩
   ·show j < (V' q).nt
    rw [h.other q hq e1]; exact hj
   ·show ((q:Int),seenS (V q) j)=((q:Int),seenS (V' q) j)
    rw [h.other q hq e1]
 have ex:∀ j,j < (V c0).nt→((c0:Int),initS (V' c0).T j) ∈ ents (ntS V') (seenA V') (n + 1):=fun j hj=>mem_ents.2 ⟨c0,j,by omega,by show j < (V' c0).nt; rw [h.xnt]; exact hj,by show _=((c0:Int),seenS (V' c0) j); rw [seen_plain h.xnc]⟩
 have ey:∀ j,j < (V c0).nt→((n:Int),initS (V' n).T j) ∈ ents (ntS V') (seenA V') (n + 1):=fun j hj=>mem_ents.2 ⟨n,j,by omega,by show j < (V' n).nt; rw [h.ynt]; exact hj,by show _=((n:Int),seenS (V' n) j); rw [seen_plain h.ync]⟩
 have e0:∀ j,j < (V c0).nt→((c0:Int),initS (V c0).T j) ∈ ents (ntS V) (seenA V) n:=fun j hj=>mem_ents.2 ⟨c0,j,hlt,hj,by show _=((c0:Int),seenS (V c0) j); rw [seen_plain h.nc]⟩
 have eback:∀ e,e ∈ ents (ntS V') (seenA V') (n + 1)→(∃ q j:Nat,q < n∧q≠c0∧e=((q:Int),seenS (V q) j)∧e ∈ ents (ntS V) (seenA V) n∧V' q=V q)∨∃ (c:Nat) (g:Nat→Nat) (j:Nat),j < (V c0).nt∧SubS (V c0) (V' c) g∧e=((c:Int),initS (V' c).T j):=fun e he=>by
  obtain ⟨q,j,hq,hj,rfl⟩:=mem_ents.1 he
  by_cases e1:q=c0
  ·subst e1
   have hj':j < (V' q).nt:=hj
   exact .inr ⟨q,_,j,by rw [← h.xnt]; exact hj',h.x,by show ((q:Int),seenS (V' q) j)=_; rw [seen_plain h.xnc]⟩
  by_cases e2:q=n
  ·subst e2
   have hj':j < (V' q).nt:=hj
   exact .inr ⟨q,_,j,by rw [← h.ynt]; exact hj',h.y,by show ((q:Int),seenS (V' q) j)=_; rw [seen_plain h.ync]⟩
  ·have hq':q < n:=by omega
   have eo:=h.other q hq' e1
   have hj':j < (V q).nt:=by rw [← eo]; exact hj
   refine .inl ⟨q,j,hq',e1,?_,mem_ents.2 ⟨q,j,hq',hj',?_⟩,eo⟩
   ·show ((q:Int),seenS (V' q) j)=_
    rw [eo]
   ·show ((q:Int),seenS (V' q) j)=((q:Int),seenS (V q) j)
    rw [eo]
 have hnames:∀ nm,(∃ e ∈ ents (ntS V) (seenA V) n,e.2.name=nm) ↔ ∃ e ∈ ents (ntS V') (seenA V') (n + 1),e.2.name=nm:=fun nm=>by
  constructor
  ·rintro ⟨e,he,rfl⟩
   rcases eto e he with ⟨q,j,-,-,-,h2,-⟩ | ⟨j,hj,rfl⟩
   ·exact ⟨e,h2,rfl⟩
   ·exact ⟨_,ex j hj,(h.xT j hj).1⟩
  ·rintro ⟨e,he,rfl⟩
   rcases eback e he with ⟨q,j,-,-,-,h2,-⟩ | ⟨c,g,j,hj,hS,rfl⟩
   ·exact ⟨e,h2,rfl⟩
   ·exact ⟨_,e0 j hj,(hS.name j hj).symm⟩
 have hp:∀ nm,partIdx (allP (ntS V) (seenA V) n).length (lpOf (allP (ntS V) (seenA V) n)) nm < 0 ↔ partIdx (allP (ntS V') (seenA V') (n + 1)).length (lpOf (allP (ntS V') (seenA V') (n + 1))) nm < 0:=fun nm=>by
  have h1:=pidx_char hC nm
  have h2:=pidx_char hC' nm
  have:=hnames nm
  exact Decidable.not_iff_not.1 (h1.trans (this.trans h2.symm))
 have hs:∀ nm,¬ partIdx (allP (ntS V) (seenA V) n).length (lpOf (allP (ntS V) (seenA V) n)) nm < 0→SameP V V' (pOf (allP (ntS V) (seenA V) n) nm) (pOf (allP (ntS V') (seenA V') (n + 1)) nm):=fun nm hnm=>by
  rw [pOf_char hC hnm,pOf_char hC' (fun h'=>hnm ((hp nm).2 h'))]
  refine sameP_of hN hN' nm (fun x hx=>?_) (fun x hx=>?_) (fun k=>bool_eq ?_)
  ·obtain ⟨e,he,hen,q,hq,rfl⟩:=mem_PL.1 hx
   rcases eto e he with ⟨s,j,hs,hne,rfl,h2,ev⟩ | ⟨j,hj,rfl⟩
   ·refine ⟨_,mem_PL.2 ⟨_,h2,hen,q,hq,rfl⟩,rfl,fun k=>?_⟩
    show hasT (V ((s:Nat):Int).toNat) _ k=hasT (V' ((s:Nat):Int).toNat) _ k∧_
    rw [Int.toNat_natCast,ev]
    exact ⟨rfl,fun _=>⟨rfl,rfl⟩⟩
   ·have hq':q < ((V c0).T j).nf:=hq
    have hen':((V c0).T j).name=nm:=hen
    have fin:∀ (c:Nat) (g:Nat→Nat) (r:Nat),SubS (V c0) (V' c) g→((c:Int),initS (V' c).T j) ∈ ents (ntS V') (seenA V') (n + 1)→r < ((V' c).T j).nf→((V' c).T j).F r=((V c0).T j).F q→∃ x',x' ∈ PL nm (ents (ntS V') (seenA V') (n + 1))∧x'.1=((V c0).T j).F q∧∀ k,hasT (V ((c0:Nat):Int).toNat) ((V c0).T j).name k=hasT (V' x'.2.svc.toNat) x'.2.type k∧(hasT (V ((c0:Nat):Int).toNat) ((V c0).T j).name k=true→(valT (thingT (V ((c0:Nat):Int).toNat) ((V c0).T j).name k) (((V c0).T j).F q).name).text=(valT (thingT (V' x'.2.svc.toNat) x'.2.type k) x'.2.field).text∧keysV (valT (thingT (V ((c0:Nat):Int).toNat) ((V c0).T j).name k) (((V c0).T j).F q).name)=keysV (valT (thingT (V' x'.2.svc.toNat) x'.2.type k) x'.2.field)):=fun c g r hS hm hr hF=>by
     refine ⟨(((V' c).T j).F r,⟨(c:Int),((V' c).T j).name,(((V' c).T j).F r).name⟩),mem_PL.2 ⟨_,hm,by show ((V' c).T j).name=nm; rw [hS.name j hj]; exact hen',r,hr,rfl⟩,hF,fun k=>?_⟩
     show hasT (V ((c0:Nat):Int).toNat) ((V c0).T j).name k=hasT (V' ((c:Nat):Int).toNat) ((V' c).T j).name k∧(hasT (V ((c0:Nat):Int).toNat) ((V c0).T j).name k=true→(valT (thingT (V ((c0:Nat):Int).toNat) ((V c0).T j).name k) (((V c0).T j).F q).name).text=(valT (thingT (V' ((c:Nat):Int).toNat) ((V' c).T j).name k) (((V' c).T j).F r).name).text∧keysV (valT (thingT (V ((c0:Nat):Int).toNat) ((V c0).T j).name k) (((V c0).T j).F q).name)=keysV (valT (thingT (V' ((c:Nat):Int).toNat) ((V' c).T j).name k) (((V' c).T j).F r).name))
     rw [Int.toNat_natCast,Int.toNat_natCast,hS.name j hj,hS.has]
     refine ⟨rfl,fun hh=>?_⟩
     rw [hS.val (hwr c0 hlt) hj hr k hh,hF]
     exact ⟨rfl,rfl⟩
    by_cases hk:q < kt j
    ·obtain ⟨x1,x2,x3⟩:=h.xT j hj
     exact fin c0 _ q h.x (ex j hj) (by rw [x2]; exact hk) (by rw [x3 q hk,Nat.zero_add])
    ·obtain ⟨y1,y2,y3⟩:=h.yT j hj
     exact fin n _ (q - kt j) h.y (ey j hj) (by rw [y2]; omega) (by rw [y3 (q - kt j) (by omega),show kt j + (q - kt j)=q by omega])
  ·obtain ⟨e,he,hen,q,hq,rfl⟩:=mem_PL.1 hx
   rcases eback e he with ⟨s,j,-,-,-,h2,-⟩ | ⟨c,g,j,hj,hS,rfl⟩
   ·exact ⟨_,mem_PL.2 ⟨e,h2,hen,q,hq,rfl⟩,rfl⟩
   ·have hq':q < ((V' c).T j).nf:=hq
    have hnf:=hS.nf j hj
    refine ⟨_,mem_PL.2 ⟨_,e0 j hj,by show ((V c0).T j).name=nm; rw [← hS.name j hj]; exact hen,g j + q,by show g j + q < ((V c0).T j).nf; omega,rfl⟩,?_⟩
    show ((V c0).T j).F (g j + q)=((V' c).T j).F q
    rw [hS.F j hj q hq']
  ·rw [there_char,there_char]
   constructor
   ·rintro ⟨e,he,hen,ht⟩
    rcases eto e he with ⟨s,j,hs,hne,rfl,h2,ev⟩ | ⟨j,hj,rfl⟩
    ·refine ⟨_,h2,hen,?_⟩
     have ht':hasT (V ((s:Nat):Int).toNat) (seenS (V s) j).own k=true:=ht
     show hasT (V' ((s:Nat):Int).toNat) (seenS (V s) j).own k=true
     rw [Int.toNat_natCast] at ht' ⊢
     rw [ev]; exact ht'
    ·have ht':hasT (V ((c0:Nat):Int).toNat) ((V c0).T j).name k=true:=ht
     rw [Int.toNat_natCast] at ht'
     refine ⟨_,ex j hj,by show ((V' c0).T j).name=nm; rw [(h.xT j hj).1]; exact hen,?_⟩
     show hasT (V' ((c0:Nat):Int).toNat) ((V' c0).T j).name k=true
     rw [Int.toNat_natCast,(h.xT j hj).1,h.x.has]; exact ht'
   ·rintro ⟨e,he,hen,ht⟩
    rcases eback e he with ⟨s,j,hs,hne,rfl,h2,ev⟩ | ⟨c,g,j,hj,hS,rfl⟩
    ·refine ⟨_,h2,hen,?_⟩
     have ht':hasT (V' ((s:Nat):Int).toNat) (seenS (V s) j).own k=true:=ht
     show hasT (V ((s:Nat):Int).toNat) (seenS (V s) j).own k=true
     rw [Int.toNat_natCast] at ht' ⊢
     rw [ev] at ht'; exact ht'
    ·have ht':hasT (V' ((c:Nat):Int).toNat) ((V' c).T j).name k=true:=ht
     rw [Int.toNat_natCast,hS.name j hj,hS.has] at ht'
     refine ⟨_,e0 j hj,by show ((V c0).T j).name=nm; rw [← hS.name j hj]; exact hen,?_⟩
     show hasT (V ((c0:Nat):Int).toNat) ((V c0).T j).name k=true
     rw [Int.toNat_natCast]; exact ht'
 obtain ⟨e1,e2⟩:=ask_same hp hs d type key ps
 have n1 : ¬ (allF n V).1≠0:=fun h=>h h0
 have n2 : ¬ (allF (n + 1) V').1≠0:=fun h=>h h0'
 have e:meanE (n + 1) V' d type key ps=meanE n V d type key ps:=by
  unfold meanE
  rw [if_neg n1,if_neg n2]
  exact e1.symm
 refine ⟨e,?_⟩
 unfold meanG
 rw [e]
 by_cases hz:meanE n V d type key ps=0
 ·rw [if_pos hz,if_pos hz]
  unfold meanE at hz
  rw [if_neg n1] at hz
  exact (e2 hz).symm
 ·rw [if_neg hz,if_neg hz]
end Go.Proofs.Ytjjggefmmeminac
