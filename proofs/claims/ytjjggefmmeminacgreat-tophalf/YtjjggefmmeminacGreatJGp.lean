import Derived.Test.YtjjggefmmeminacGreatJMn
import Derived.Test.YtjjggefmmeminacGreatJPl
import Derived.Test.YtjjggefmmeminacGreatJWr
import Derived.Test.YtjjggefmmeminacGreatJBase
namespace Go.Proofs.YtjjggefmmeminacGreat
open Go.RowKit Go.Sort Go.PlainAid
structure PReq where
 svc:Int
 type:ByteArray
 keys:List ByteArray
 fields:List ByteArray
def addNew (l:List ByteArray) (x:ByteArray):List ByteArray:=if l.any (fun y=>eqs y x)=true then l else l ++ [x]
def once (l:List ByteArray):List ByteArray:=l.foldl addNew []
theorem addNew_mem {l:List ByteArray} {x y:ByteArray} : y ∈ addNew l x ↔ y ∈ l∨y=x:=by
 unfold addNew
 split
 ·rename_i h
  obtain ⟨z,hz,e⟩:=List.any_eq_true.1 h
  rw [eqs_iff] at e
  subst e
  exact ⟨.inl,fun h=>h.elim id (fun h=>h ▸ hz)⟩
 ·simp
theorem addNew_nodup {l:List ByteArray} (h:l.Nodup) (x:ByteArray):(addNew l x).Nodup:=by
 unfold addNew
 split
 ·exact h
 ·rename_i hn
  rw [List.nodup_append]
  refine ⟨h,by simp,fun a ha b hb e=>?_⟩
  have hb':b=x:=by simpa using hb
  exact hn (List.any_eq_true.2 ⟨a,ha,eqs_iff.2 (e.trans hb')⟩)
theorem foldNew_mem:∀ (m l:List ByteArray) {y:ByteArray},y ∈ m.foldl addNew l ↔ y ∈ l∨y ∈ m
 | [],l,y=>by simp
 | x :: m,l,y=>by
  rw [List.foldl_cons,foldNew_mem m,addNew_mem,List.mem_cons,or_assoc]
theorem foldNew_nodup:∀ (m l:List ByteArray),l.Nodup→(m.foldl addNew l).Nodup
 | [],_,h=>h
 | x :: m,l,h=>by rw [List.foldl_cons]; exact foldNew_nodup m _ (addNew_nodup h x)
theorem once_mem {l:List ByteArray} {y:ByteArray} : y ∈ once l ↔ y ∈ l:=by unfold once; rw [foldNew_mem]; simp
theorem once_nodup (l:List ByteArray):(once l).Nodup:=foldNew_nodup l [] List.nodup_nil
def ofHome {d:Nat} (p:PPart) (h:POwner) (k:Pick (d + 1)):Bool:=decide ((oOf p (pfield k)).svc=h.svc) && eqs (oOf p (pfield k)).type h.type
def fieldsFor {d:Nat} (p:PPart) (h:POwner) (ps:List (Pick (d + 1))):List ByteArray:=once ((ps.filter (ofHome p h)).map (fun k=>(oOf p (pfield k)).field))
def leads (V:Nat→LServ) (o:POwner) (key:ByteArray):List ByteArray:=if hasT (V o.svc.toNat) o.type key=true then keysV (valT (thingT (V o.svc.toNat) o.type key) o.field) else []
def nextOf (V:Nat→LServ) (o:POwner) (keys:List ByteArray):List ByteArray:=once (keys.flatMap (leads V o))
def homeAsk {d:Nat} (p:PPart) (keys:List ByteArray) (ps:List (Pick (d + 1))) (h:POwner):PReq:=⟨h.svc,h.type,keys,fieldsFor p h ps⟩
def asksK {d:Nat} (V:Nat→LServ) (L:List PPart) (sub:PPart→List ByteArray→List (Pick d)→List PReq) (p:PPart) (keys:List ByteArray) (k:Pick (d + 1)):List PReq :=
 if (fOf p (pfield k)).kind=1 then [] else if nextOf V (oOf p (pfield k)) keys = [] then [] else sub (pOf L (fOf p (pfield k)).type) (nextOf V (oOf p (pfield k)) keys) (subs k)
def asks (V:Nat→LServ) (L:List PPart):(d:Nat)→PPart→List ByteArray→List (Pick d)→List PReq
 | 0,_,_,_=>[]
 | d + 1,p,keys,ps=>p.hs.map (homeAsk p keys ps) ++ ps.flatMap (asksK V L (asks V L d) p keys)
theorem asks_succ (V:Nat→LServ) (L:List PPart) (d:Nat) (p:PPart) (keys:List ByteArray) (ps:List (Pick (d + 1))):asks V L (d + 1) p keys ps=p.hs.map (homeAsk p keys ps) ++ ps.flatMap (asksK V L (asks V L d) p keys):=rfl
structure ReqR (n:Nat) (V:Nat→LServ) (r:PReq):Prop where
 ex:∃ c t:Nat,r.svc=(c:Int)∧c < n∧t < (V c).nt∧find (V c).nt (V c).T r.type=(t:Int)∧(seenS (V c) t).own=r.type∧∀ f,f ∈ r.fields→¬ fieldIdx ((V c).T t).nf ((V c).T t).F f < 0∧∃ q,q < (seenS (V c) t).nf∧(seenS (V c) t).O q=f
 fields:r.fields.Nodup
 keys:r.keys.Nodup
 some:r.keys≠[]
theorem home_right {n:Nat} {V:Nat→LServ} (h0:(allF n V).1=0) {d:Nat} {nm:ByteArray} {keys:List ByteArray} {ps:List (Pick (d + 1))} (hk:keys.Nodup) (hs:keys≠[]) (hf:∀ k,k ∈ ps→¬ fieldIdx (mkP nm (ents (ntS V) (seenA V) n)).fs.length (fsN (mkP nm (ents (ntS V) (seenA V) n))) (pfield k) < 0) {h:POwner} (hh:h ∈ (mkP nm (ents (ntS V) (seenA V) n)).hs):ReqR n V (homeAsk (mkP nm (ents (ntS V) (seenA V) n)) keys ps h):=by
 obtain ⟨-,hok,hN,-⟩:=part_right h0
 obtain ⟨e,he,rfl⟩:=List.mem_map.1 hh
 rw [sel_mem] at he
 obtain ⟨s,j,hs',hj,rfl⟩:=mem_ents.1 he.1
 have hj':j < (V s).nt:=hj
 obtain ⟨o1,o2,o3⟩:=seen_own (hok s hs') hj'
 refine ⟨⟨s,j,rfl,hs',hj',o2,rfl,fun f hff=>?_⟩,once_nodup _,hk,hs⟩
 have hff':=once_mem.1 hff
 obtain ⟨k,hk',rfl⟩:=List.mem_map.1 hff'
 obtain ⟨hk1,hk2⟩:=List.mem_filter.1 hk'
 obtain ⟨x,hx,ex⟩:=(fidx_char hN nm (pfield k)).1 (hf k hk1)
 obtain ⟨-,-,eo⟩:=fof_char hN hx
 rw [ex] at eo
 unfold ofHome at hk2
 rw [eo] at hk2 ⊢
 obtain ⟨e2,he2,hn2,q,hq,rfl⟩:=mem_PL.1 hx
 obtain ⟨s2,j2,hs2,hj2,rfl⟩:=mem_ents.1 he2
 have h1:((s2:Int)=(s:Int))∧(seenS (V s2) j2).own=(seenS (V s) j).own:=by
  simp only [Bool.and_eq_true,decide_eq_true_eq,eqs_iff] at hk2
  exact hk2
 have hss:s2=s:=by omega
 subst hss
 have hj2':j2 < (V s2).nt:=hj2
 have hjj:j2=j:=by
  have h3:=(seen_own (hok s2 hs2) hj2').2.1
  rw [h1.2,o2] at h3
  omega
 subst hjj
 exact ⟨o3 q hq,q,hq,rfl⟩
def lists:(d:Nat)→List (Pick d)→Nat
 | 0,_=>1
 | d + 1,ps=>ps.foldl (fun n k=>if (subs k).isEmpty then n else n + lists d (subs k)) 1
theorem sel_few {nm:ByteArray} {svc:Int} {S:Nat→PSeen} : ∀ (k:Nat),(∀ a b,a < b→b < k→(S a).name≠(S b).name)→(sel nm (entsOf svc S k)).length≤1
 | 0,_=>by simp [entsOf,sel]
 | k + 1,h=>by
  have ih:=sel_few (nm:=nm) (svc:=svc) (S:=S) k (fun a b h1 h2=>h a b h1 (by omega))
  rw [entsOf_succ]
  by_cases e:(S k).name=nm
  ·rw [sel_snoc_yes (e:=(svc,S k)) e]
   have:sel nm (entsOf svc S k) = []:=by
    rw [List.eq_nil_iff_forall_not_mem]
    intro x hx
    obtain ⟨h1,h2⟩:=sel_mem.1 hx
    obtain ⟨j,hj,rfl⟩:=List.mem_map.1 h1
    exact h j k (by simpa using hj) (by omega) (h2.trans e.symm)
   rw [this]; simp
  ·rw [sel_snoc_no (e:=(svc,S k)) e]; exact ih
theorem sel_append (nm:ByteArray) (a b:List (Int × PSeen)):sel nm (a ++ b)=sel nm a ++ sel nm b:=by unfold sel; exact List.filter_append ..
theorem homes_few {V:Nat→LServ} {nm:ByteArray} : ∀ (i:Nat),(∀ j,j < i→RightS (V j).nt (seenS (V j)))→(sel nm (ents (ntS V) (seenA V) i)).length≤i
 | 0,_=>by simp [ents,sel]
 | i + 1,h=>by
  have ih:=homes_few (nm:=nm) i (fun j hj=>h j (by omega))
  have e:ents (ntS V) (seenA V) (i + 1)=ents (ntS V) (seenA V) i ++ entsOf (i:Int) (seenA V i) (ntS V i):=rfl
  have h1:(sel nm (entsOf (i:Int) (seenA V i) (ntS V i))).length≤1:=sel_few _ fun a b h1 h2=>(h i (by omega)).one a b h1 h2
  rw [e,sel_append,List.length_append]
  omega
theorem fold_sum {α:Type} {f : α→List PReq} {b:α→Bool} {g:α→Nat} {n:Nat} : ∀ (l:List α) (m:Nat),(∀ x,x ∈ l→(f x).length≤if b x then 0 else g x * n)→m * n + (l.flatMap f).length≤(l.foldl (fun m x=>if b x then m else m + g x) m) * n
 | [],m,_=>by simp
 | x :: l,m,h=>by
  have h1:=h x (by simp)
  have h2:=fun m=>fold_sum l m (fun y hy=>h y (by simp [hy]))
  rw [List.flatMap_cons,List.length_append,List.foldl_cons]
  by_cases e:b x=true
  ·rw [if_pos e] at h1 ⊢
   have:=h2 m
   omega
  ·rw [if_neg e] at h1 ⊢
   have:=h2 (m + g x)
   rw [Nat.add_mul] at this
   omega
theorem asks_few {n:Nat} {V:Nat→LServ} (h0:(allF n V).1=0):∀ (d:Nat) (nm:ByteArray) (keys:List ByteArray) (ps:List (Pick d)) (ahead:List ByteArray),¬ partIdx (allP (ntS V) (seenA V) n).length (lpOf (allP (ntS V) (seenA V) n)) nm < 0→cR (allP (ntS V) (seenA V) n).length (lpOf (allP (ntS V) (seenA V) n)) d (pOf (allP (ntS V) (seenA V) n) nm).fs.length (fsN (pOf (allP (ntS V) (seenA V) n) nm)) ahead ps=0→(asks V (allP (ntS V) (seenA V) n) d (pOf (allP (ntS V) (seenA V) n) nm) keys ps).length≤lists d ps * n
 | 0,_,_,_,_,_,_=>by simp [asks]
 | d + 1,nm,keys,ps,ahead,hnm,hc=>by
  obtain ⟨-,hok,-,-⟩:=part_right h0
  have hC:Char (allP (ntS V) (seenA V) n) (ents (ntS V) (seenA V) n):=char_all n
  have hh:(pOf (allP (ntS V) (seenA V) n) nm).hs.length≤n:=by
   rw [pOf_char hC hnm]
   unfold mkP
   rw [List.length_map]
   exact homes_few n fun j hj=>right_run (seeF_right (hok j hj)) (V j).nc
  rw [asks_succ,List.length_append,List.length_map]
  have key:=fold_sum (f:=asksK V (allP (ntS V) (seenA V) n) (asks V (allP (ntS V) (seenA V) n) d) (pOf (allP (ntS V) (seenA V) n) nm) keys) (b:=fun k=>(subs k).isEmpty) (g:=fun k=>lists d (subs k)) (n:=n) ps 1 (fun k hk=>by
   obtain ⟨i,hi,rfl⟩:=List.mem_iff_getElem.1 hk
   obtain ⟨a',h1⟩:=cR_each hc hi
   rw [pickN_get hi] at h1
   obtain ⟨-,hz⟩:=cP_zero h1
   have hz':(fOf (pOf (allP (ntS V) (seenA V) n) nm) (pfield ps[i])).kind=1∧subs ps[i] = []∨(fOf (pOf (allP (ntS V) (seenA V) n) nm) (pfield ps[i])).kind≠1∧subs ps[i]≠[]∧¬ partIdx (allP (ntS V) (seenA V) n).length (lpOf (allP (ntS V) (seenA V) n)) (fOf (pOf (allP (ntS V) (seenA V) n) nm) (pfield ps[i])).type < 0∧cR (allP (ntS V) (seenA V) n).length (lpOf (allP (ntS V) (seenA V) n)) d (pOf (allP (ntS V) (seenA V) n) (fOf (pOf (allP (ntS V) (seenA V) n) nm) (pfield ps[i])).type).fs.length (fsN (pOf (allP (ntS V) (seenA V) n) (fOf (pOf (allP (ntS V) (seenA V) n) nm) (pfield ps[i])).type)) [] (subs ps[i])=0:=hz
   unfold asksK
   by_cases h1:(fOf (pOf (allP (ntS V) (seenA V) n) nm) (pfield ps[i])).kind=1
   ·rw [if_pos h1]; exact Nat.zero_le _
   rw [if_neg h1]
   by_cases h2:nextOf V (oOf (pOf (allP (ntS V) (seenA V) n) nm) (pfield ps[i])) keys = []
   ·rw [if_pos h2]; exact Nat.zero_le _
   rw [if_neg h2]
   rcases hz' with ⟨h3,-⟩ | ⟨-,hs,hq,hc2⟩
   ·exact absurd h3 h1
   have he : ¬ (subs ps[i]).isEmpty=true:=fun h=>hs (List.isEmpty_iff.1 h)
   rw [if_neg he]
   exact asks_few h0 d _ _ _ [] hq hc2)
  have e:lists (d + 1) ps=ps.foldl (fun m x=>if (subs x).isEmpty then m else m + lists d (subs x)) 1:=rfl
  rw [e]
  rw [Nat.one_mul] at key
  omega
end Go.Proofs.YtjjggefmmeminacGreat
namespace Go.Proofs.YtjjggefmmeminacGreat
open Go.RowKit Go.Sort Go.PlainAid
def total:(d:Nat)→List (Pick d)→Nat
 | 0,_=>0
 | d + 1,L=>L.foldr (fun k n=>1 + total d (subs k) + n) 0
theorem total_nil (d:Nat):total d []=0:=by cases d <;> rfl
theorem total_cons (d:Nat) (k:Pick (d + 1)) (L:List (Pick (d + 1))):total (d + 1) (k :: L)=1 + total d (subs k) + total (d + 1) L:=rfl
theorem wR_total:∀ (d deep n:Nat) (L:List (Pick d)),(wR d deep n L).1=0→n + total d L≤(wR d deep n L).2
 | 0,_,_,_,_=>Nat.le_refl _
 | d + 1,deep,n,L,h=>by
  induction L generalizing n with
  | nil=>rw [wR_nil,total_nil]; exact Nat.le_refl _
  | cons p L ih =>
   rw [wR_cons] at h ⊢
   by_cases h0:(wP d deep n p).1=0
   ·rw [if_neg (by simp [h0])] at h ⊢
    have h1:=ih (wP d deep n p).2 h
    have h2:n + 1 + total d (subs p)≤(wP d deep n p).2:=by
     unfold wP wL at h0 ⊢
     by_cases g1:60 < n + 1
     ·rw [if_pos g1] at h0; cases h0
     rw [if_neg g1] at h0 ⊢
     by_cases g2:badName p=true
     ·rw [if_pos g2] at h0; cases h0
     rw [if_neg g2] at h0 ⊢
     by_cases g3:(subs p).isEmpty=true
     ·rw [if_pos g3,List.isEmpty_iff.1 g3,total_nil]; exact Nat.le_refl _
     rw [if_neg g3] at h0 ⊢
     by_cases g4:8 < deep + 1
     ·rw [if_pos g4] at h0; cases h0
     rw [if_neg g4,if_neg g3] at h0 ⊢
     exact wR_total d (deep + 1) (n + 1) (subs p) h0
    rw [total_cons]; omega
   ·rw [if_pos h0] at h; exact absurd h h0
theorem wA_total {d:Nat} {type key:ByteArray} {L:List (Pick d)} (h:wA d type key L=0):total d L≤60:=by
 unfold wA at h
 by_cases hn:(!named type || !named key)=true
 ·rw [if_pos hn] at h; cases h
 rw [if_neg hn] at h
 unfold wL at h
 rw [if_neg (by omega)] at h
 by_cases he:L.isEmpty=true
 ·rw [if_pos he] at h; cases h
 rw [if_neg he] at h
 have h1:=wR_total d 1 0 L h
 have h2:=(wR_le d 1 0 L (by omega)).2 h
 omega
theorem lists_fold {d:Nat} (hs:∀ L:List (Pick d),lists d L≤1 + total d L):∀ (L:List (Pick (d + 1))) (m:Nat),L.foldl (fun n k=>if (subs k).isEmpty then n else n + lists d (subs k)) m≤m + total (d + 1) L
 | [],m=>Nat.le_refl _
 | k :: L,m=>by
  rw [List.foldl_cons,total_cons]
  have h1:=lists_fold hs L
  by_cases e:(subs k).isEmpty=true
  ·rw [if_pos e]; have:=h1 m; omega
  ·rw [if_neg e]; have:=h1 (m + lists d (subs k)); have:=hs (subs k); omega
theorem lists_total:∀ (d:Nat) (L:List (Pick d)),lists d L≤1 + total d L
 | 0,_=>Nat.le_refl _
 | d + 1,L=>lists_fold (lists_total d) L 1
def reqs (n:Nat) (V:Nat→LServ) (d:Nat) (type key:ByteArray) (ps:List (Pick d)):List PReq:=if meanE n V d type key ps=0 then asks V (allP (ntS V) (seenA V) n) d (pOf (allP (ntS V) (seenA V) n) type) [key] ps else []
end Go.Proofs.YtjjggefmmeminacGreat
namespace Go.Proofs.YtjjggefmmeminacGreat
open Go.RowKit Go.Sort Go.PlainAid
theorem flatMap_same {α β:Type} {l:List α} {f g:α→List β} (h:∀ x,x ∈ l→f x=g x):l.flatMap f=l.flatMap g:=by
 rw [List.flatMap_def,List.flatMap_def,List.map_congr_left h]
theorem owner_home {E:List (Int × PSeen)} (hN:Nod E) {nm f:ByteArray} (hf : ¬ fieldIdx (mkP nm E).fs.length (fsN (mkP nm E)) f < 0):∃ h,h ∈ (mkP nm E).hs∧h.svc=(oOf (mkP nm E) f).svc∧h.type=(oOf (mkP nm E) f).type:=by
 obtain ⟨x,hx,rfl⟩:=(fidx_char hN nm f).1 hf
 obtain ⟨-,-,eo⟩:=fof_char hN hx
 rw [eo]
 obtain ⟨e,he,hn,q,hq,rfl⟩:=mem_PL.1 hx
 exact ⟨homeOf e,List.mem_map.2 ⟨e,sel_mem.2 ⟨he,hn⟩,rfl⟩,rfl,rfl⟩
end Go.Proofs.YtjjggefmmeminacGreat
namespace Go.Proofs.YtjjggefmmeminacGreat
open Go.RowKit Go.Sort
structure SServ where
 ta:Option Addr
 nt:Nat
 tcap:Nat
 T:Nat→LType
 ca:Option Addr
 nc:Nat
 ccap:Nat
 xa:Option Addr
 nx:Nat
 xcap:Nat
 X:Nat→LThing
structure SServAt (w:World) (b o:Nat) (s:SServ):Prop where
 c0:w.cell? ⟨b,o,none⟩=some (.slice s.ta s.nt s.tcap)
 c1:w.cell? ⟨b,o + 1,none⟩=some (.slice s.ca s.nc s.ccap)
 c2:w.cell? ⟨b,o + 2,none⟩=some (.slice s.xa s.nx s.xcap)
 types:TypesAt w s.ta s.nt s.T
 things:ThingsAt w s.xa s.nx s.X
 tcap:s.nt≤s.tcap
 xcap:s.nx≤s.xcap
theorem SServAt.kept {w w':World} {b o:Nat} {s:SServ} (h:SServAt w b o s) (hB:Below w.heap.size w w'):SServAt w' b o s :=
 ⟨keptCell hB h.c0,keptCell hB h.c1,keptCell hB h.c2,h.types.kept hB,h.things.kept hB,h.tcap,h.xcap⟩
def SServsAt (w:World) (a:Option Addr) (n:Nat) (V:Nat→SServ):Prop:=n≤maxLen∧∀ i,i < n→∃ b o,a=some ⟨b,o,none⟩∧SServAt w b (o + i * 3) (V i)
theorem SServsAt.kept {w w':World} {a:Option Addr} {n:Nat} {V:Nat→SServ} (h:SServsAt w a n V) (hB:Below w.heap.size w w'):SServsAt w' a n V :=
 ⟨h.1,fun i hi=>let ⟨b,o,e,s⟩:=h.2 i hi; ⟨b,o,e,s.kept hB⟩⟩
def LightX (x:LThing):Prop:=x.nv * 56≤140737488355328∧∀ k,k < x.nv→(x.V k).nk * 16≤140737488355328
def LightS (s:SServ):Prop := ∀ i,i < s.nx→LightX (s.X i)
structure LReq where
 svc:Int
 type:ByteArray
 ka:Option Addr
 nk:Nat
 kcap:Nat
 K:Nat→ByteArray
 fa:Option Addr
 nf:Nat
 fcap:Nat
 F:Nat→ByteArray
def reqV (q:LReq):Value:=.agg #[.int .i64 q.svc,.string q.type,.slice q.ka q.nk q.kcap,.slice q.fa q.nf q.fcap]
structure ReqOk (w:World) (q:LReq):Prop where
 keys:KeysAt w q.ka q.nk q.K
 fields:KeysAt w q.fa q.nf q.F
 svc:(Lit.int .i64 q.svc).wf=true
 kcap:q.nk≤q.kcap
 fcap:q.nf≤q.fcap
 small:Small q.type
theorem ReqOk.kept {w w':World} {q:LReq} (h:ReqOk w q) (hB:Below w.heap.size w w'):ReqOk w' q:=⟨h.keys.kept hB,h.fields.kept hB,h.svc,h.kcap,h.fcap,h.small⟩
def stood (K:Nat→ByteArray) (i:Nat):Bool:=decide (0≤idx i (fun j=>eqs (K j) (K i)))
theorem stood_true {K:Nat→ByteArray} {i:Nat} : stood K i=true ↔ ∃ j,j < i∧K j=K i:=by
 unfold stood
 rw [decide_eq_true_iff]
 rcases idx_cases i (fun j=>eqs (K j) (K i)) with ⟨h,hb⟩ | ⟨k,hk,h,hp,-⟩
 ·rw [h]
  constructor
  ·intro h'; omega
  ·rintro ⟨j,hj,e⟩
   have h2:=hb j hj
   simp only [e] at h2
   rw [eqs_iff.2 rfl] at h2
   cases h2
 ·rw [h]
  exact ⟨fun _=>⟨k,hk,eqs_iff.1 hp⟩,fun _=>by omega⟩
theorem stood_false {K:Nat→ByteArray} {i:Nat} : stood K i=false ↔ ∀ j,j < i→K j≠K i:=by
 rw [← Bool.not_eq_true,stood_true]
 constructor
 ·intro h j hj e; exact h ⟨j,hj,e⟩
 ·rintro h ⟨j,hj,e⟩; exact h j hj e
def fieldE (nf:Nat) (G:Nat→LField) (F:Nat→ByteArray) (i:Nat):Int:=if fieldIdx nf G (F i) < 0 then 7 else if stood F i then 6 else 0
def fieldsE (nf:Nat) (G:Nat→LField) (m:Nat) (F:Nat→ByteArray):Int:=(fault m (fieldE nf G F)).1
def twice (n:Nat) (K:Nat→ByteArray):Bool:=decide (0≤idx n (stood K))
theorem twice_true {n:Nat} {K:Nat→ByteArray} : twice n K=true ↔ ∃ i,i < n∧stood K i=true:=by
 unfold twice
 rw [decide_eq_true_iff]
 rcases idx_cases n (stood K) with ⟨h,hb⟩ | ⟨k,hk,h,hp,-⟩
 ·rw [h]
  exact ⟨fun h'=>by omega,fun ⟨i,hi,e⟩=>by rw [hb i hi] at e; cases e⟩
 ·rw [h]
  exact ⟨fun _=>⟨k,hk,hp⟩,fun _=>by omega⟩
theorem twice_false {n:Nat} {K:Nat→ByteArray} : twice n K=false ↔ ∀ i,i < n→stood K i=false:=by
 rw [← Bool.not_eq_true,twice_true]
 constructor
 ·intro h i hi
  cases e:stood K i
  ·rfl
  ·exact absurd ⟨i,hi,e⟩ h
 ·rintro h ⟨i,hi,e⟩
  rw [h i hi] at e; cases e
def wrongR (s:SServ) (q:LReq):Int :=
 if find s.nt s.T q.type < 0 then 1
 else if fieldsE (s.T (find s.nt s.T q.type).toNat).nf (s.T (find s.nt s.T q.type).toNat).F q.nf q.F≠0 then fieldsE (s.T (find s.nt s.T q.type).toNat).nf (s.T (find s.nt s.T q.type).toNat).F q.nf q.F
 else if twice q.nk q.K then 6 else 0
def wrongQ (n:Nat) (V:Nat→SServ) (q:LReq):Int:=if q.svc < 0∨(n:Int)≤q.svc then 5 else wrongR (V q.svc.toNat) q
theorem find_cases (n:Nat) (T:Nat→LType) (name:ByteArray):find n T name < 0∨∃ t:Nat,t < n∧find n T name=(t:Int):=by
 rcases idx_cases n (fun i=>eqs (T i).name name) with ⟨h,_⟩ | ⟨k,hk,h,_⟩
 ·left; unfold find; rw [h]; omega
 ·exact .inr ⟨k,hk,h⟩
theorem wrongQ_none {n:Nat} {V:Nat→SServ} {q:LReq} (h:q.svc < 0∨(n:Int)≤q.svc):wrongQ n V q=5:=by unfold wrongQ; rw [if_pos h]
theorem wrongQ_kind {n c:Nat} {V:Nat→SServ} {q:LReq} (hc:q.svc=(c:Int)) (h:c < n) (hf:find (V c).nt (V c).T q.type < 0):wrongQ n V q=1:=by
 unfold wrongQ wrongR
 rw [if_neg (by omega),hc,Int.toNat_natCast,if_pos hf]
theorem wrongQ_fields {n c t:Nat} {V:Nat→SServ} {q:LReq} (hc:q.svc=(c:Int)) (h:c < n) (hf:find (V c).nt (V c).T q.type=(t:Int)) (he:fieldsE ((V c).T t).nf ((V c).T t).F q.nf q.F≠0):wrongQ n V q=fieldsE ((V c).T t).nf ((V c).T t).F q.nf q.F:=by
 unfold wrongQ wrongR
 rw [if_neg (by omega),hc,Int.toNat_natCast,hf,if_neg (by omega),Int.toNat_natCast,if_pos he]
theorem wrongQ_keys {n c t:Nat} {V:Nat→SServ} {q:LReq} (hc:q.svc=(c:Int)) (h:c < n) (hf:find (V c).nt (V c).T q.type=(t:Int)) (he:fieldsE ((V c).T t).nf ((V c).T t).F q.nf q.F=0):wrongQ n V q=if twice q.nk q.K then 6 else 0:=by
 unfold wrongQ wrongR
 rw [if_neg (by omega),hc,Int.toNat_natCast,hf,if_neg (by omega),Int.toNat_natCast,if_neg (by omega)]
theorem wrongQ_zero {n:Nat} {V:Nat→SServ} {q:LReq} (h:wrongQ n V q=0):∃ c t:Nat,q.svc=(c:Int)∧c < n∧t < (V c).nt∧find (V c).nt (V c).T q.type=(t:Int)∧(∀ i,i < q.nf→fieldE ((V c).T t).nf ((V c).T t).F q.F i=0)∧∀ i,i < q.nk→stood q.K i=false:=by
 by_cases hs:q.svc < 0∨(n:Int)≤q.svc
 ·rw [wrongQ_none hs] at h; cases h
 ·obtain ⟨c,hc⟩:∃ c:Nat,q.svc=(c:Int):=⟨q.svc.toNat,by omega⟩
  have hcn:c < n:=by omega
  rcases find_cases (V c).nt (V c).T q.type with hf | ⟨t,ht,hf⟩
  ·rw [wrongQ_kind hc hcn hf] at h; cases h
  ·by_cases he:fieldsE ((V c).T t).nf ((V c).T t).F q.nf q.F=0
   ·rw [wrongQ_keys hc hcn hf he] at h
    refine ⟨c,t,hc,hcn,ht,hf,?_,?_⟩
    ·rcases fault_cases q.nf (fieldE ((V c).T t).nf ((V c).T t).F q.F) with ⟨-,h2⟩ | ⟨k,hk,h1,h2,-⟩
     ·exact h2
     ·unfold fieldsE at he; rw [h1] at he; exact absurd he h2
    ·apply twice_false.1
     cases e:twice q.nk q.K
     ·rfl
     ·rw [e] at h; cases h
   ·rw [wrongQ_fields hc hcn hf he] at h; exact absurd h he
def valsOf1 (x:LThing) (f:ByteArray):List LVal:=((List.range x.nv).map x.V).filter (fun v=>eqs v.field f)
def valsL (x:LThing) (m:Nat) (F:Nat→ByteArray):List LVal:=(List.range m).flatMap (fun i=>valsOf1 x (F i))
theorem valsL_succ (x:LThing) (m:Nat) (F:Nat→ByteArray):valsL x (m + 1) F=valsL x m F ++ valsOf1 x (F m):=by
 unfold valsL; rw [List.range_succ,List.flatMap_append]; simp
theorem valsL_zero (x:LThing) (F:Nat→ByteArray):valsL x 0 F = []:=rfl
def valsTo (x:LThing) (f:ByteArray) (k:Nat):List LVal:=((List.range k).map x.V).filter (fun v=>eqs v.field f)
theorem valsTo_all (x:LThing) (f:ByteArray):valsTo x f x.nv=valsOf1 x f:=rfl
theorem valsTo_hit {x:LThing} {f : ByteArray} {k:Nat} (h:eqs (x.V k).field f=true):valsTo x f (k + 1)=valsTo x f k ++ [x.V k]:=by
 unfold valsTo; rw [List.range_succ,List.map_append,List.filter_append]; simp [h]
theorem valsTo_miss {x:LThing} {f : ByteArray} {k:Nat} (h:eqs (x.V k).field f=false):valsTo x f (k + 1)=valsTo x f k:=by
 unfold valsTo; rw [List.range_succ,List.map_append,List.filter_append]; simp [h]
theorem valsL_count (x:LThing) (F:Nat→ByteArray):∀ m,(∀ i,i < m→stood F i=false)→(valsL x m F).length=((List.range x.nv).map x.V).countP (fun v=>(List.range m).any (fun i=>eqs v.field (F i)))
 | 0,_=>by simp [valsL_zero]
 | m + 1,h=>by
  rw [valsL_succ,List.length_append,valsL_count x F m (fun i hi=>h i (by omega)),valsOf1,← List.countP_eq_length_filter]
  generalize (List.range x.nv).map x.V=l
  have hs:=stood_false.1 (h m (Nat.lt_succ_self m))
  induction l with
  | nil=>rfl
  | cons v l ih =>
   simp only [List.countP_cons,List.range_succ,List.any_append] at ih ⊢
   cases e1:(List.range m).any (fun i=>eqs v.field (F i)) with
   | true =>
    have e2:eqs v.field (F m)=false:=by
     rw [List.any_eq_true] at e1
     obtain ⟨j,hj,hj2⟩:=e1
     cases e:eqs v.field (F m)
     ·rfl
     ·exact absurd ((eqs_iff.1 hj2).symm.trans (eqs_iff.1 e)) (hs j (by simpa using hj))
    simp [e2] at ih ⊢
    omega
   | false =>
    simp at ih ⊢
    omega
theorem valsL_few {x:LThing} {m:Nat} {F:Nat→ByteArray} (h:∀ i,i < m→stood F i=false):(valsL x m F).length≤x.nv:=by
 rw [valsL_count x F m h]
 have:=List.countP_le_length (p:=fun v=>(List.range m).any (fun i=>eqs v.field (F i))) (l:=(List.range x.nv).map x.V)
 simpa using this
theorem valsL_mono (x:LThing) (F:Nat→ByteArray) {k m:Nat} (h:k≤m):(valsL x k F).length≤(valsL x m F).length:=by
 induction m with
 | zero=>simp [show k=0 by omega]
 | succ m ih =>
  by_cases e:k=m + 1
  ·subst e; exact Nat.le_refl _
  ·rw [valsL_succ,List.length_append]
   have:=ih (by omega)
   omega
theorem valsTo_few (x:LThing) (f:ByteArray) {k:Nat} (h:k≤x.nv):(valsTo x f k).length≤(valsOf1 x f).length:=by
 unfold valsTo valsOf1
 rw [show x.nv=k + (x.nv - k) by omega,List.range_add,List.map_append,List.filter_append,List.length_append]
 omega
def noThing:LThing:=⟨⟨#[]⟩,⟨#[]⟩,none,0,0,fun _=>⟨⟨#[]⟩,⟨#[]⟩,none,0,0,fun _=>⟨#[]⟩⟩⟩
def foundI (s:SServ) (typ key:ByteArray):Bool:=decide (0≤idx s.nx (sameThing s.X typ key))
def thingOf (s:SServ) (typ key:ByteArray):LThing:=if idx s.nx (sameThing s.X typ key) < 0 then noThing else s.X (idx s.nx (sameThing s.X typ key)).toNat
theorem foundI_some {s:SServ} {typ key:ByteArray} {k:Nat} (h:idx s.nx (sameThing s.X typ key)=(k:Int)):foundI s typ key=true∧thingOf s typ key=s.X k:=by
 unfold foundI thingOf; rw [h,if_neg (by omega),Int.toNat_natCast]; exact ⟨decide_eq_true (by omega),rfl⟩
theorem foundI_none {s:SServ} {typ key:ByteArray} (h:idx s.nx (sameThing s.X typ key) < 0):foundI s typ key=false∧thingOf s typ key=noThing:=by
 unfold foundI thingOf; rw [if_pos h]; exact ⟨decide_eq_false (by omega),rfl⟩
end Go.Proofs.YtjjggefmmeminacGreat
namespace Go.Proofs.YtjjggefmmeminacGreat
open Go.RowKit Go.Sort Go.PlainAid Classical
def bump (c:ByteArray→Nat) (s:ByteArray):ByteArray→Nat:=fun u=>if eqs u s then c s + 1 else c u
def addCL (q:ByteArray→Bool) (c:ByteArray→Nat) (l:List ByteArray):ByteArray→Nat:=l.foldl (fun c key=>if q key then bump c key else c) c
theorem addCL_snoc (q:ByteArray→Bool) (c:ByteArray→Nat) (l:List ByteArray) (x:ByteArray):addCL q c (l ++ [x])=if q x then bump (addCL q c l) x else addCL q c l:=by unfold addCL; rw [List.foldl_append]; rfl
theorem bump_same (c:ByteArray→Nat) (s:ByteArray):bump c s s=c s + 1:=by unfold bump; rw [if_pos (eqs_iff.2 rfl)]
theorem bump_other {c:ByteArray→Nat} {s u:ByteArray} (h:u≠s):bump c s u=c u:=by unfold bump; rw [if_neg (fun e=>h (eqs_iff.1 e))]
theorem addCL_eq (q:ByteArray→Bool):∀ (l:List ByteArray) (c:ByteArray→Nat),l.Nodup→∀ s,addCL q c l s=c s + if s ∈ l∧q s=true then 1 else 0
 | [],c,_,s=>by simp [addCL]
 | x :: l,c,h,s=>by
  have hx:x ∉ l:=(List.nodup_cons.1 h).1
  have ih:=addCL_eq q l (if q x then bump c x else c) (List.nodup_cons.1 h).2 s
  have e0:addCL q c (x :: l)=addCL q (if q x then bump c x else c) l:=rfl
  rw [e0,ih]
  by_cases e:s=x
  ·subst e
   rw [if_neg (fun h:s ∈ l∧q s=true=>hx h.1)]
   by_cases hq:q s=true
   ·rw [if_pos hq,bump_same,if_pos ⟨by simp,hq⟩]
   ·rw [if_neg hq,if_neg (fun h=>hq h.2)]
  ·have e1:(if q x then bump c x else c) s=c s:=by
    split
    ·exact bump_other e
    ·rfl
   rw [e1]
   have e2:(s ∈ x :: l∧q s=true) ↔ (s ∈ l∧q s=true):=by simp [e]
   simp only [e2]
def timesL (l:List ByteArray):ByteArray→Nat:=l.foldl bump (fun _=>0)
theorem timesL_snoc (l:List ByteArray) (x:ByteArray):timesL (l ++ [x])=bump (timesL l) x:=by unfold timesL; rw [List.foldl_append]; rfl
theorem fold_bump:∀ (l:List ByteArray) (c:ByteArray→Nat) (s:ByteArray),(l.foldl bump c s=0 ↔ c s=0∧s ∉ l)∧l.foldl bump c s≤c s + l.length
 | [],c,s=>⟨by simp,Nat.le_refl _⟩
 | x :: l,c,s=>by
  obtain ⟨h1,h2⟩:=fold_bump l (bump c x) s
  rw [List.foldl_cons]
  by_cases e:s=x
  ·subst e
   rw [bump_same] at h1 h2
   refine ⟨?_,by rw [List.length_cons]; omega⟩
   rw [h1]; simp
  ·rw [bump_other e] at h1 h2
   refine ⟨?_,by rw [List.length_cons]; omega⟩
   rw [h1]; simp [e]
theorem timesL_zero {l:List ByteArray} {s:ByteArray} : timesL l s=0 ↔ s ∉ l:=by
 rw [timesL,(fold_bump l (fun _=>0) s).1]; simp
theorem timesL_le (l:List ByteArray) (s:ByteArray):timesL l s≤l.length:=by
 have:=(fold_bump l (fun _=>0) s).2
 rw [timesL]; omega
theorem once_snoc (l:List ByteArray) (x:ByteArray):once (l ++ [x])=addNew (once l) x:=by unfold once; rw [List.foldl_append]; rfl
theorem once_had {l:List ByteArray} {x:ByteArray} (h:x ∈ l):once (l ++ [x])=once l:=by
 rw [once_snoc]; unfold addNew
 have h1:(once l).any (fun y=>eqs y x)=true:=List.any_eq_true.2 ⟨x,once_mem.2 h,eqs_iff.2 rfl⟩
 rw [if_pos h1]
theorem once_new {l:List ByteArray} {x:ByteArray} (h:x ∉ l):once (l ++ [x])=once l ++ [x]:=by
 rw [once_snoc]; unfold addNew
 rw [if_neg]
 intro e
 obtain ⟨y,hy,e⟩:=List.any_eq_true.1 e
 rw [eqs_iff] at e
 subst e
 exact h (once_mem.1 hy)
theorem once_len (l:List ByteArray):(once l).length≤l.length:=by
 have key:∀ (m a:List ByteArray),(m.foldl addNew a).length≤a.length + m.length:=by
  intro m
  induction m with
  | nil=>intro a; exact Nat.le_refl _
  | cons x m ih =>
   intro a
   rw [List.foldl_cons]
   have h1:=ih (addNew a x)
   have h2:(addNew a x).length≤a.length + 1:=by
    unfold addNew; split
    ·omega
    ·simp
   rw [List.length_cons]; omega
 have:=key l []
 unfold once
 simpa using this
def cntH (V:Nat→LServ) (hs:List POwner) (key:ByteArray):Nat:=(hs.filter (fun h=>hasT (V h.svc.toNat) h.type key)).length
theorem cntH_zero {V:Nat→LServ} {p:PPart} {key:ByteArray} : cntH V p.hs key=0 ↔ thereP V p key=false:=by
 unfold cntH thereP
 rw [List.length_eq_zero_iff,List.filter_eq_nil_iff,List.any_eq_false]
def cntAll (V:Nat→LServ) (keys:List ByteArray) (hs:List POwner):ByteArray→Nat:=hs.foldl (fun c h=>addCL (hasT (V h.svc.toNat) h.type) c keys) (fun _=>0)
theorem cntAll_snoc (V:Nat→LServ) (keys:List ByteArray) (hs:List POwner) (h:POwner):cntAll V keys (hs ++ [h])=addCL (hasT (V h.svc.toNat) h.type) (cntAll V keys hs) keys:=by unfold cntAll; rw [List.foldl_append]; rfl
theorem fold_cnt {V:Nat→LServ} {keys:List ByteArray} (hk:keys.Nodup) {s:ByteArray} (hs:s ∈ keys):∀ (l:List POwner) (c:ByteArray→Nat),(l.foldl (fun c h=>addCL (hasT (V h.svc.toNat) h.type) c keys) c) s=c s + cntH V l s
 | [],c=>by simp [cntH]
 | h :: l,c=>by
  rw [List.foldl_cons,fold_cnt hk hs l,addCL_eq _ _ _ hk]
  unfold cntH
  by_cases e:hasT (V h.svc.toNat) h.type s=true
  ·rw [if_pos ⟨hs,e⟩,List.filter_cons_of_pos (p:=fun h:POwner=>hasT (V h.svc.toNat) h.type s) e,List.length_cons]; omega
  ·rw [if_neg (fun h=>e h.2),List.filter_cons_of_neg (p:=fun h:POwner=>hasT (V h.svc.toNat) h.type s) e]; omega
theorem cntAll_eq {V:Nat→LServ} {keys:List ByteArray} (hk:keys.Nodup) {s:ByteArray} (hs:s ∈ keys) (l:List POwner):cntAll V keys l s=cntH V l s:=by
 rw [cntAll,fold_cnt hk hs]; simp
theorem fold_cnt_le {V:Nat→LServ} {keys:List ByteArray} (hk:keys.Nodup) (s:ByteArray):∀ (l:List POwner) (c:ByteArray→Nat),(l.foldl (fun c h=>addCL (hasT (V h.svc.toNat) h.type) c keys) c) s≤c s + l.length
 | [],c=>Nat.le_refl _
 | h :: l,c=>by
  rw [List.foldl_cons]
  have h1:=fold_cnt_le (V:=V) hk s l (addCL (hasT (V h.svc.toNat) h.type) c keys)
  rw [addCL_eq _ _ _ hk] at h1
  rw [List.length_cons]
  split at h1 <;> omega
theorem cntAll_le {V:Nat→LServ} {keys:List ByteArray} (hk:keys.Nodup) (s:ByteArray) (l:List POwner):cntAll V keys l s≤l.length:=by
 have:=fold_cnt_le (V:=V) hk s l (fun _=>0)
 rw [cntAll]; omega
def putV (v:Int→ByteArray→ByteArray→ByteArray→Option LVal) (s:Int) (ty f key:ByteArray) (x:LVal):Int→ByteArray→ByteArray→ByteArray→Option LVal:=fun s' ty' f' key'=>if s'=s∧ty'=ty∧f'=f∧key'=key then some x else v s' ty' f' key'
def putL (v:Int→ByteArray→ByteArray→ByteArray→Option LVal) (s:Int) (ty key:ByteArray) (l:List LVal):Int→ByteArray→ByteArray→ByteArray→Option LVal:=l.foldl (fun v x=>putV v s ty x.field key x) v
theorem putL_snoc (v:Int→ByteArray→ByteArray→ByteArray→Option LVal) (s:Int) (ty key:ByteArray) (l:List LVal) (x:LVal):putL v s ty key (l ++ [x])=putV (putL v s ty key l) s ty x.field key x:=by unfold putL; rw [List.foldl_append]; rfl
theorem putL_eq {h:ByteArray→LVal} (s:Int) (ty key:ByteArray):∀ (fs:List ByteArray) (v:Int→ByteArray→ByteArray→ByteArray→Option LVal),(∀ f,f ∈ fs→(h f).field=f)→∀ s' ty' f' key',putL v s ty key (fs.map h) s' ty' f' key'=if s'=s∧ty'=ty∧key'=key∧f' ∈ fs then some (h f') else v s' ty' f' key'
 | [],v,_,s',ty',f',key'=>by simp [putL]
 | f :: fs,v,hf,s',ty',f',key'=>by
  have ih:=putL_eq (h:=h) s ty key fs (putV v s ty f key (h f)) (fun g hg=>hf g (by simp [hg])) s' ty' f' key'
  have e0:putL v s ty key ((f :: fs).map h)=putL (putV v s ty (h f).field key (h f)) s ty key (fs.map h):=rfl
  rw [e0,hf f (by simp),ih]
  by_cases c:s'=s∧ty'=ty∧key'=key
  ·obtain ⟨rfl,rfl,rfl⟩:=c
   by_cases c2:f' ∈ fs
   ·rw [if_pos ⟨rfl,rfl,rfl,c2⟩,if_pos ⟨rfl,rfl,rfl,by simp [c2]⟩]
   ·rw [if_neg (fun h=>c2 h.2.2.2)]
    unfold putV
    by_cases c3:f'=f
    ·subst c3
     rw [if_pos ⟨rfl,rfl,rfl,rfl⟩,if_pos ⟨rfl,rfl,rfl,by simp⟩]
    ·rw [if_neg (fun h=>c3 h.2.2.1),if_neg (fun h=>by
      have:=h.2.2.2
      simp [c3,c2] at this)]
  ·rw [if_neg (fun h=>c ⟨h.1,h.2.1,h.2.2.1⟩),if_neg (fun h=>c ⟨h.1,h.2.1,h.2.2.1⟩)]
   unfold putV
   rw [if_neg (fun h=>c ⟨h.1,h.2.1,h.2.2.2⟩)]
def addVL (q:ByteArray→Bool) (g:ByteArray→List LVal) (s:Int) (ty:ByteArray) (v:Int→ByteArray→ByteArray→ByteArray→Option LVal) (l:List ByteArray):Int→ByteArray→ByteArray→ByteArray→Option LVal:=l.foldl (fun v key=>if q key then putL v s ty key (g key) else v) v
theorem addVL_snoc (q:ByteArray→Bool) (g:ByteArray→List LVal) (s:Int) (ty:ByteArray) (v:Int→ByteArray→ByteArray→ByteArray→Option LVal) (l:List ByteArray) (x:ByteArray):addVL q g s ty v (l ++ [x])=if q x then putL (addVL q g s ty v l) s ty x (g x) else addVL q g s ty v l:=by unfold addVL; rw [List.foldl_append]; rfl
theorem addVL_eq {q:ByteArray→Bool} {h:ByteArray→ByteArray→LVal} {fs:List ByteArray} (s:Int) (ty:ByteArray):∀ (l:List ByteArray) (v:Int→ByteArray→ByteArray→ByteArray→Option LVal),(∀ key,q key=true→∀ f,f ∈ fs→(h key f).field=f)→∀ s' ty' f' key',addVL q (fun key=>fs.map (h key)) s ty v l s' ty' f' key'=if s'=s∧ty'=ty∧key' ∈ l∧q key'=true∧f' ∈ fs then some (h key' f') else v s' ty' f' key'
 | [],v,_,s',ty',f',key'=>by simp [addVL]
 | x :: l,v,hf,s',ty',f',key'=>by
  have e0:addVL q (fun key=>fs.map (h key)) s ty v (x :: l)=addVL q (fun key=>fs.map (h key)) s ty (if q x then putL v s ty x (fs.map (h x)) else v) l:=rfl
  rw [e0,addVL_eq s ty l _ hf]
  by_cases c:s'=s∧ty'=ty∧q key'=true∧f' ∈ fs
  ·obtain ⟨rfl,rfl,c3,c4⟩:=c
   by_cases c5:key' ∈ l
   ·rw [if_pos ⟨rfl,rfl,c5,c3,c4⟩,if_pos ⟨rfl,rfl,by simp [c5],c3,c4⟩]
   ·rw [if_neg (fun h=>c5 h.2.2.1)]
    by_cases c6:key'=x
    ·subst c6
     rw [if_pos c3,putL_eq _ _ _ _ _ (hf key' c3),if_pos ⟨rfl,rfl,rfl,c4⟩,if_pos ⟨rfl,rfl,by simp,c3,c4⟩]
    ·have n1 : ¬ (s'=s'∧ty'=ty'∧key' ∈ x :: l∧q key'=true∧f' ∈ fs):=fun h=>by
      have:=h.2.2.1
      simp [c6,c5] at this
     rw [if_neg n1]
     by_cases hq:q x=true
     ·rw [if_pos hq,putL_eq _ _ _ _ _ (hf x hq),if_neg (fun h=>c6 h.2.2.1)]
     ·rw [if_neg hq]
  ·have n1 : ¬ (s'=s∧ty'=ty∧key' ∈ l∧q key'=true∧f' ∈ fs):=fun h=>c ⟨h.1,h.2.1,h.2.2.2.1,h.2.2.2.2⟩
   have n2 : ¬ (s'=s∧ty'=ty∧key' ∈ x :: l∧q key'=true∧f' ∈ fs):=fun h=>c ⟨h.1,h.2.1,h.2.2.2.1,h.2.2.2.2⟩
   rw [if_neg n1,if_neg n2]
   by_cases hq:q x=true
   ·rw [if_pos hq,putL_eq _ _ _ _ _ (hf x hq),if_neg]
    rintro ⟨a,b,e,f⟩
    subst e
    exact c ⟨a,b,hq,f⟩
   ·rw [if_neg hq]
def valsH {d:Nat} (V:Nat→LServ) (p:PPart) (ps:List (Pick (d + 1))) (h:POwner) (key:ByteArray):List LVal:=(fieldsFor p h ps).map (valT (thingT (V h.svc.toNat) h.type key))
def valsAll {d:Nat} (V:Nat→LServ) (p:PPart) (ps:List (Pick (d + 1))) (keys:List ByteArray) (hs:List POwner):Int→ByteArray→ByteArray→ByteArray→Option LVal :=
 hs.foldl (fun v h=>addVL (hasT (V h.svc.toNat) h.type) (valsH V p ps h) h.svc h.type v keys) (fun _ _ _ _=>none)
theorem valsAll_snoc {d:Nat} (V:Nat→LServ) (p:PPart) (ps:List (Pick (d + 1))) (keys:List ByteArray) (hs:List POwner) (h:POwner):valsAll V p ps keys (hs ++ [h])=addVL (hasT (V h.svc.toNat) h.type) (valsH V p ps h) h.svc h.type (valsAll V p ps keys hs) keys:=by unfold valsAll; rw [List.foldl_append]; rfl
structure GPart (n:Nat) (V:Nat→LServ) (p:PPart):Prop where
 r:PartR n V p
 n5:n≤5
 few:p.hs.length≤5
 home:∀ f,¬ fieldIdx p.fs.length (fsN p) f < 0→∃ h,h ∈ p.hs∧h.svc=(oOf p f).svc∧h.type=(oOf p f).type
 req:∀ {d:Nat} {keys:List ByteArray} {ps:List (Pick (d + 1))},keys.Nodup→keys≠[]→(∀ k,k ∈ ps→¬ fieldIdx p.fs.length (fsN p) (pfield k) < 0)→∀ h,h ∈ p.hs→ReqR n V (homeAsk p keys ps h)
 x60:∀ s,s < n→(V s).nx≤60
theorem gpart {n:Nat} {V:Nat→LServ} (h0:(allF n V).1=0) {nm:ByteArray} (h : ¬ partIdx (allP (ntS V) (seenA V) n).length (lpOf (allP (ntS V) (seenA V) n)) nm < 0):GPart n V (pOf (allP (ntS V) (seenA V) n) nm):=by
 have hC:Char (allP (ntS V) (seenA V) n) (ents (ntS V) (seenA V) n):=char_all n
 obtain ⟨n5,hok,hN,-⟩:=part_right h0
 refine ⟨part_r h0 h,n5,?_,fun f hf=>?_,fun hk hs hf x hx=>?_,fun s hs=>?_⟩
 ·rw [pOf_char hC h]
  unfold mkP
  rw [List.length_map]
  exact Nat.le_trans (homes_few n fun j hj=>right_run (seeF_right (hok j hj)) (V j).nc) n5
 ·rw [pOf_char hC h] at hf ⊢
  exact owner_home hN hf
 ·rw [pOf_char hC h] at hf hx ⊢
  exact home_right h0 hk hs hf hx
 ·have:=(wrongF_ok (allF_wrong h0)).2 s hs
  rcases Nat.eq_zero_or_pos (V s).nx with e | e
  ·omega
  ·exact (thing_right this.2 e).1
theorem field_of {d:Nat} {p:PPart} {h:POwner} {ps:List (Pick (d + 1))} {f : ByteArray} (hf:f ∈ fieldsFor p h ps):∃ k,k ∈ ps∧(oOf p (pfield k)).svc=h.svc∧(oOf p (pfield k)).type=h.type∧(oOf p (pfield k)).field=f:=by
 unfold fieldsFor at hf
 obtain ⟨k,hk,rfl⟩:=List.mem_map.1 (once_mem.1 hf)
 obtain ⟨h1,h2⟩:=List.mem_filter.1 hk
 unfold ofHome at h2
 simp only [Bool.and_eq_true,decide_eq_true_eq,eqs_iff] at h2
 exact ⟨k,h1,h2.1,h2.2,rfl⟩
theorem of_field {d:Nat} {p:PPart} {h:POwner} {ps:List (Pick (d + 1))} {k:Pick (d + 1)} (hk:k ∈ ps) (h1:h.svc=(oOf p (pfield k)).svc) (h2:h.type=(oOf p (pfield k)).type):(oOf p (pfield k)).field ∈ fieldsFor p h ps:=by
 unfold fieldsFor
 refine once_mem.2 (List.mem_map.2 ⟨k,List.mem_filter.2 ⟨hk,?_⟩,rfl⟩)
 unfold ofHome
 simp only [Bool.and_eq_true,decide_eq_true_eq,eqs_iff]
 exact ⟨h1.symm,h2.symm⟩
theorem fieldsFor_len {d:Nat} (p:PPart) (h:POwner) (ps:List (Pick (d + 1))):(fieldsFor p h ps).length≤ps.length:=by
 unfold fieldsFor
 refine Nat.le_trans (once_len _) ?_
 rw [List.length_map]
 exact List.length_filter_le _ _
def AskF {d:Nat} (p:PPart) (ps:List (Pick (d + 1))):Prop := ∀ k,k ∈ ps→¬ fieldIdx p.fs.length (fsN p) (pfield k) < 0
theorem val_field {n d:Nat} {V:Nat→LServ} {p:PPart} (hG:GPart n V p) {ps:List (Pick (d + 1))} (hf:AskF p ps) {h:POwner} {f key:ByteArray} (hm:f ∈ fieldsFor p h ps) (hk:hasT (V h.svc.toNat) h.type key=true) :
  ∃ m,m < (thingT (V h.svc.toNat) h.type key).nv∧valT (thingT (V h.svc.toNat) h.type key) f=(thingT (V h.svc.toNat) h.type key).V m∧((thingT (V h.svc.toNat) h.type key).V m).field=f∧(∀ m',m' < (thingT (V h.svc.toNat) h.type key).nv→(eqs ((thingT (V h.svc.toNat) h.type key).V m').field f=true ↔ m'=m))∧((thingT (V h.svc.toNat) h.type key).V m).nk≤20:=by
 obtain ⟨k,hk1,e1,e2,e3⟩:=field_of hm
 obtain ⟨s,hs,es,ho⟩:=hG.r.owner _ (hf k hk1)
 have hs':h.svc.toNat=s:=by rw [← e1,es]; simp
 rw [hs',← e2] at hk
 obtain ⟨m,h1,h2,h3,g,-,h4⟩:=ho key hk
 rw [hs',← e2,← e3]
 exact ⟨m,h1,h2,eqs_iff.1 ((h3 m h1).2 rfl),h3,h4.few⟩
theorem valT_field {n d:Nat} {V:Nat→LServ} {p:PPart} (hG:GPart n V p) {ps:List (Pick (d + 1))} (hf:AskF p ps) {h:POwner} (key:ByteArray) (hk:hasT (V h.svc.toNat) h.type key=true) (f:ByteArray) (hm:f ∈ fieldsFor p h ps):(valT (thingT (V h.svc.toNat) h.type key) f).field=f:=by
 obtain ⟨m,-,h2,h3,-⟩:=val_field hG hf hm hk
 rw [h2,h3]
theorem valsAll_eq {n d:Nat} {V:Nat→LServ} {p:PPart} (hG:GPart n V p) {ps:List (Pick (d + 1))} (hf:AskF p ps) (keys:List ByteArray):∀ (hs:List POwner) (v:Int→ByteArray→ByteArray→ByteArray→Option LVal) (s:Int) (ty f key:ByteArray),
  (hs.foldl (fun v h=>addVL (hasT (V h.svc.toNat) h.type) (valsH V p ps h) h.svc h.type v keys) v) s ty f key=if (∃ h,h ∈ hs∧h.svc=s∧h.type=ty)∧key ∈ keys∧hasT (V s.toNat) ty key=true∧f ∈ fieldsFor p ⟨s,ty,⟨#[]⟩⟩ ps then some (valT (thingT (V s.toNat) ty key) f) else v s ty f key
 | [],v,s,ty,f,key=>by simp
 | h :: hs,v,s,ty,f,key=>by
  have hv:=addVL_eq (q:=hasT (V h.svc.toNat) h.type) (h:=fun key=>valT (thingT (V h.svc.toNat) h.type key)) (fs:=fieldsFor p h ps) h.svc h.type keys v (fun key hk f hm=>valT_field hG hf key hk f hm) s ty f key
  rw [List.foldl_cons,valsAll_eq hG hf keys hs]
  by_cases c:key ∈ keys∧hasT (V s.toNat) ty key=true∧f ∈ fieldsFor p ⟨s,ty,⟨#[]⟩⟩ ps
  ·by_cases c2:∃ h,h ∈ hs∧h.svc=s∧h.type=ty
   ·rw [if_pos ⟨c2,c⟩,if_pos ⟨let ⟨h,h1,h2⟩:=c2; ⟨h,by simp [h1],h2⟩,c⟩]
   ·rw [if_neg (fun h=>c2 h.1)]
    by_cases c3:h.svc=s∧h.type=ty
    ·obtain ⟨e1,e2⟩:=c3
     rw [if_pos ⟨⟨h,by simp,e1,e2⟩,c⟩]
     show addVL _ (fun key=>(fieldsFor p h ps).map (valT (thingT (V h.svc.toNat) h.type key))) h.svc h.type v keys s ty f key=_
     rw [hv,if_pos]
     ·rw [e1,e2]
     ·refine ⟨e1.symm,e2.symm,c.1,by rw [e1,e2]; exact c.2.1,?_⟩
      have:fieldsFor p h ps=fieldsFor p ⟨s,ty,⟨#[]⟩⟩ ps:=by rw [← e1,← e2]; rfl
      rw [this]; exact c.2.2
    ·rw [if_neg (fun h'=>by
      obtain ⟨⟨x,hx,e1,e2⟩,-⟩:=h'
      rcases List.mem_cons.1 hx with rfl | hx
      ·exact c3 ⟨e1,e2⟩
      ·exact c2 ⟨x,hx,e1,e2⟩)]
     show addVL _ (fun key=>(fieldsFor p h ps).map (valT (thingT (V h.svc.toNat) h.type key))) h.svc h.type v keys s ty f key=_
     rw [hv,if_neg (fun h'=>c3 ⟨h'.1.symm,h'.2.1.symm⟩)]
  ·rw [if_neg (fun h=>c h.2),if_neg (fun h=>c h.2)]
   show addVL _ (fun key=>(fieldsFor p h ps).map (valT (thingT (V h.svc.toNat) h.type key))) h.svc h.type v keys s ty f key=_
   rw [hv,if_neg]
   rintro ⟨e1,e2,e3,e4,e5⟩
   refine c ⟨e3,by rw [e1,e2]; exact e4,?_⟩
   have:fieldsFor p h ps=fieldsFor p ⟨s,ty,⟨#[]⟩⟩ ps:=by rw [e1,e2]; rfl
   rw [← this]; exact e5
theorem valsAll_pick {n d:Nat} {V:Nat→LServ} {p:PPart} (hG:GPart n V p) {ps:List (Pick (d + 1))} (hf:AskF p ps) {keys:List ByteArray} {k:Pick (d + 1)} (hk:k ∈ ps) {key:ByteArray} (hkey:key ∈ keys) :
  valsAll V p ps keys p.hs (oOf p (pfield k)).svc (oOf p (pfield k)).type (oOf p (pfield k)).field key=if hasT (V (oOf p (pfield k)).svc.toNat) (oOf p (pfield k)).type key=true then some (valT (thingT (V (oOf p (pfield k)).svc.toNat) (oOf p (pfield k)).type key) (oOf p (pfield k)).field) else none:=by
 unfold valsAll
 rw [valsAll_eq hG hf]
 by_cases c:hasT (V (oOf p (pfield k)).svc.toNat) (oOf p (pfield k)).type key=true
 ·rw [if_pos c,if_pos ⟨hG.home _ (hf k hk),hkey,c,of_field hk rfl rfl⟩]
 ·rw [if_neg c,if_neg (fun h=>c h.2.2.1)]
def keysO (o:Option LVal):List ByteArray:=match o with
 | none=>[]
 | some x=>keysV x
theorem keysO_pick {n d:Nat} {V:Nat→LServ} {p:PPart} (hG:GPart n V p) {ps:List (Pick (d + 1))} (hf:AskF p ps) {keys:List ByteArray} {k:Pick (d + 1)} (hk:k ∈ ps) {key:ByteArray} (hkey:key ∈ keys):keysO (valsAll V p ps keys p.hs (oOf p (pfield k)).svc (oOf p (pfield k)).type (oOf p (pfield k)).field key)=leads V (oOf p (pfield k)) key:=by
 rw [valsAll_pick hG hf hk hkey]
 unfold leads
 split
 ·rfl
 ·rfl
theorem nodup_len {α:Type} [DecidableEq α]:∀ (l m:List α),l.Nodup→(∀ x,x ∈ l→x ∈ m)→l.length≤m.length
 | [],_,_,_=>Nat.zero_le _
 | x :: l,m,h,hs=>by
  have hx:=List.nodup_cons.1 h
  have h1:=nodup_len l (m.erase x) hx.2 fun y hy=>(List.mem_erase_of_ne (fun e=>by subst e; exact hx.1 hy)).2 (hs y (by simp [hy]))
  have h2:=List.length_erase_of_mem (hs x (by simp))
  have h3:0 < m.length:=List.length_pos_of_mem (hs x (by simp))
  rw [List.length_cons]; omega
theorem flat_len {α β:Type} {f : α→List β} {q:α→Bool} {b:Nat} : ∀ (l:List α),(∀ x,x ∈ l→(f x).length≤if q x then b else 0)→(l.flatMap f).length≤(l.filter q).length * b
 | [],_=>Nat.zero_le _
 | x :: l,h=>by
  have h1:=h x (by simp)
  have h2:=flat_len l fun y hy=>h y (by simp [hy])
  rw [List.flatMap_cons,List.length_append]
  by_cases e:q x=true
  ·rw [if_pos e] at h1
   rw [List.filter_cons_of_pos e,List.length_cons,Nat.add_mul]
   omega
  ·rw [if_neg e] at h1
   rw [List.filter_cons_of_neg e]
   omega
theorem next_few {n d:Nat} {V:Nat→LServ} {p:PPart} (hG:GPart n V p) {ps:List (Pick (d + 1))} (hf:AskF p ps) {k:Pick (d + 1)} (hk:k ∈ ps) {keys:List ByteArray} (hn:keys.Nodup):(keys.flatMap (leads V (oOf p (pfield k)))).length≤1200:=by
 obtain ⟨s,hs,es,ho⟩:=hG.r.owner _ (hf k hk)
 have es':(oOf p (pfield k)).svc.toNat=s:=by rw [es]; simp
 have h1:=flat_len (f:=leads V (oOf p (pfield k))) (q:=fun key=>hasT (V s) (oOf p (pfield k)).type key) (b:=20) keys fun key _=>by
  unfold leads
  rw [es']
  by_cases c:hasT (V s) (oOf p (pfield k)).type key=true
  ·rw [if_pos c,if_pos c]
   obtain ⟨m,-,e,-,g,-,hr⟩:=ho key c
   rw [e]
   unfold keysV
   rw [List.length_map,List.length_range]
   exact hr.few
  ·rw [if_neg c,if_neg c]; exact Nat.le_refl _
 have h2:(keys.filter (fun key=>hasT (V s) (oOf p (pfield k)).type key)).length≤((List.range (V s).nx).map (fun i=>((V s).X i).key)).length:=nodup_len _ _ (hn.filter _) fun x hx=>by
  obtain ⟨-,hx2⟩:=List.mem_filter.1 hx
  obtain ⟨i,hi,-,-,-,e⟩:=hasT_iff hx2
  exact List.mem_map.2 ⟨i,by simpa using hi,e⟩
 rw [List.length_map,List.length_range] at h2
 have h3:=hG.x60 s hs
 have h4:(keys.filter (fun key=>hasT (V s) (oOf p (pfield k)).type key)).length * 20≤60 * 20:=Nat.mul_le_mul_right 20 (by omega)
 omega
end Go.Proofs.YtjjggefmmeminacGreat
