import Derived.WalkKit
import Derived.RegionTactic
import Derived.Lib.QuietBelow
import Derived.Maps.AppendAt
import Derived.Deep.AppendSrc
import Derived.Test.YtjjggefmmeminacGreatRows
import Derived.WalkSpells
import Derived.WalkLawsBesides
import Derived.BigQuiet
import Derived.Shelf.Abstract
import Derived.PlainAid
namespace Go.Proofs.YtjjggefmmeminacGreat
open Go.RowKit
def allBack (md:Region.Mode) (ops:Array Oper):Bool:=(List.range ops.size).all fun i=>match ops[i]? with
 | some o=>o.after.all fun e => !Region.binds md e || decide (e.on < i)
 | none=>true
def evalS (s:Nat→Value):Operand→Value
 | .tmp t=>s t
 | .const v=>v
 | .global g=>.pointer (some ⟨g,0,none⟩)
 | .func f=>.func (.func f) #[] #[]
def updS (s:Nat→Value) (d:Option Nat) (v:Value):Nat→Value:=match d with
 | some d=>fun j=>if j=d then v else s j
 | none=>s
def OpStep (P:Program) (o:Oper) (s:Nat→Value) (w:World) (K:(Nat→Value)→World→Prop):Prop:=match (execOp (evalS s) o).run P w with
 | .ok (.value v) w'=>K (updS s o.dst v) w'
 | .ok .skip w'=>K (updS s o.dst undef) w'
 | .ok (.enter f args) w'=>Calls P f args w' fun e w'' => ∃ v,e = .returned v∧K (updS s o.dst v) w''
 | _=>False
def slots (a:Act):Nat→Value:=fun j=>a.tmps.getD j undef
theorem eval_slots (a:Act):a.eval=evalS (slots a):=by
 funext x; cases x <;> rfl
theorem slots_put (a:Act) (d:Option Nat) (v:Value) (h:∀ j,d=some j→j < a.tmps.size):slots (a.put d v)=updS (slots a) d v:=by
 cases d with
 | none=>rfl
 | some d =>
  funext j
  have hd:=h d rfl
  simp only [slots,Act.put,updS,Array.getD_eq_getD_getElem?,Array.getElem?_setIfInBounds]
  by_cases e:j=d
  ·subst e; simp [hd]
  ·simp [e,Ne.symm e]
section
variable {P:Program} {md:Region.Mode} {ops:Array Oper} {Q:Exit→Act→World→Prop}
theorem ready_spec {listed:Array Bool} {i:Nat} (h:i ∈ Region.ready md ops listed):∃ o,ops[i]? = some o∧listed.getD i true=false∧∀ e ∈ o.after,Region.binds md e=true→listed.getD e.on false=true:=by
 unfold Region.ready at h
 rw [List.mem_filter] at h
 obtain ⟨h1,h2⟩:=h
 have hi:i < ops.size:=by simpa using h1
 rw [Bool.and_eq_true] at h2
 refine ⟨ops[i],by simp [hi],by simpa using h2.1,fun e he hb=>?_⟩
 have h3:=h2.2
 simp only [hi,Array.getElem?_eq_getElem,Option.map_some,Option.getD_some,Array.all_eq_true'] at h3
 have:=h3 e he
 simpa [hb] using this
theorem ready_none {listed:Array Bool} (hb:allBack md ops=true) (h:Region.ready md ops listed = []):∀ i,i < ops.size→listed.getD i true=true:=by
 intro i
 induction i using Nat.strongRecOn with
 | _ i ih =>
  intro hi
  cases hl:listed.getD i true with
  | true=>rfl
  | false =>
   exfalso
   have hm:i ∈ Region.ready md ops listed:=by
    unfold Region.ready
    rw [List.mem_filter]
    refine ⟨by simpa using hi,?_⟩
    rw [Bool.and_eq_true]
    refine ⟨by simp [hl],?_⟩
    simp only [hi,Array.getElem?_eq_getElem,Option.map_some,Option.getD_some,Array.all_eq_true']
    intro e he
    cases hbe:Region.binds md e with
    | false=>simp
    | true =>
     unfold allBack at hb
     rw [List.all_eq_true] at hb
     have h1:=hb i (by simpa using hi)
     simp only [hi,Array.getElem?_eq_getElem,Array.all_eq_true'] at h1
     have h2:=h1 e he
     simp [hbe] at h2
     have h3:=ih e.on h2 (by omega)
     have h4:e.on < listed.size∨¬ e.on < listed.size:=Nat.lt_or_ge _ _ |>.imp id (by omega)
     rcases h4 with h4 | h4
     ·simp [Array.getD_eq_getD_getElem?,h4] at h3 ⊢; exact h3
     ·exfalso
      have h5:listed.size≤i:=by omega
      simp [Array.getD_eq_getD_getElem?,Array.getElem?_eq_none h5] at hl
   rw [h] at hm
   cases hm
theorem wpAny_inv (hb:allBack md ops=true) (I:(Nat→Bool)→Act→World→Prop)
  (hstep:∀ L a w i o,I L a w→ops[i]? = some o→L i=false→(∀ e ∈ o.after,Region.binds md e=true→L e.on=true)→wpOp P ops Q i (I (fun j=>decide (j=i) || L j)) a w)
  (hdone:∀ L a w,I L a w→(∀ i,i < ops.size→L i=true)→Q .normal a w) :
  ∀ (fuel:Nat) (listed:Array Bool) (a:Act) (w:World),listed.size=ops.size→((List.range ops.size).filter (fun i => !listed.getD i true)).length≤fuel→I (fun j=>listed.getD j false) a w→wpAny P md ops Q fuel listed a w:=by
 have same:∀ (listed:Array Bool),listed.size=ops.size→∀ i,i < ops.size→listed.getD i false=listed.getD i true:=fun listed hs i hi=>by
  simp [Array.getD_eq_getD_getElem?,show i < listed.size by omega]
 have fin:∀ (listed:Array Bool) (a:Act) (w:World),listed.size=ops.size→I (fun j=>listed.getD j false) a w→Region.ready md ops listed = []→Q .normal a w:=fun listed a w hs hI h0 =>
  hdone _ a w hI fun i hi=>by show listed.getD i false=true; rw [same listed hs i hi]; exact ready_none hb h0 i hi
 intro fuel
 induction fuel with
 | zero =>
  intro listed a w hs hc hI
  have h0:Region.ready md ops listed = []:=by
   apply List.eq_nil_iff_forall_not_mem.2
   intro i hi
   obtain ⟨o,ho,hl,-⟩:=ready_spec hi
   have hlt:i < ops.size:=(Array.getElem?_eq_some_iff.1 ho).1
   have:i ∈ (List.range ops.size).filter (fun i => !listed.getD i true):=by
    rw [List.mem_filter]; exact ⟨by simpa using hlt,by simp [hl]⟩
   rw [List.eq_nil_of_length_eq_zero (Nat.le_zero.1 hc)] at this
   cases this
  exact ⟨h0,fin listed a w hs hI h0⟩
 | succ fuel ih =>
  intro listed a w hs hc hI
  refine ⟨fin listed a w hs hI,fun i hi=>?_⟩
  obtain ⟨o,ho,hl,ha⟩:=ready_spec hi
  have hlt:i < ops.size:=(Array.getElem?_eq_some_iff.1 ho).1
  refine wpOp_mono (fun a' w' h=>?_) (hstep _ a w i o hI ho (by show listed.getD i false=false; rw [same listed hs i hlt]; exact hl) ha)
  refine ih _ a' w' (by simpa using hs) ?_ ?_
  ·have hsub:∀ j,j < ops.size→(listed.setIfInBounds i true).getD j true=(decide (j=i) || listed.getD j true):=fun j hj=>by
    simp only [Array.getD_eq_getD_getElem?,Array.getElem?_setIfInBounds]
    by_cases e:j=i
    ·subst e; simp [show j < listed.size by omega]
    ·simp [e,Ne.symm e]
   have hlt2:((List.range ops.size).filter (fun j => !(listed.setIfInBounds i true).getD j true)).length < ((List.range ops.size).filter (fun j => !listed.getD j true)).length:=by
    have e1:(List.range ops.size).filter (fun j => !(listed.setIfInBounds i true).getD j true)=((List.range ops.size).filter (fun j => !listed.getD j true)).filter (fun j => !decide (j=i)):=by
     rw [List.filter_filter]
     refine List.filter_congr fun j hj=>?_
     rw [hsub j (by simpa using hj)]
     cases decide (j=i) <;> simp
    rw [e1]
    refine List.length_filter_lt_length_iff_exists.2 ⟨i,?_,by simp⟩
    rw [List.mem_filter]; exact ⟨by simpa using hlt,by simp [hl]⟩
   omega
  ·have e2:(fun j=>(listed.setIfInBounds i true).getD j false)=fun j=>decide (j=i) || listed.getD j false:=by
    funext j
    simp only [Array.getD_eq_getD_getElem?,Array.getElem?_setIfInBounds]
    by_cases e:j=i
    ·subst e; simp [show j < listed.size by omega]
    ·simp [e,Ne.symm e]
   rw [e2]; exact h
end
def putAll (a:Act) (s:Nat→Value):List Nat→Act
 | []=>a
 | d :: ds=>putAll (a.put (some d) (s d)) s ds
theorem putAll_size (s:Nat→Value):∀ (D:List Nat) (a:Act),(putAll a s D).tmps.size=a.tmps.size∧(putAll a s D).defers=a.defers
 | [],a=>⟨rfl,rfl⟩
 | d :: ds,a=>by
  obtain ⟨h1,h2⟩:=putAll_size s ds (a.put (some d) (s d))
  exact ⟨h1.trans (by simp [Act.put]),h2⟩
theorem putAll_slots (s:Nat→Value):∀ (D:List Nat) (a:Act),(∀ d ∈ D,d < a.tmps.size)→∀ j,slots (putAll a s D) j=if j ∈ D then s j else slots a j
 | [],a,_,j=>by simp [putAll]
 | d :: ds,a,h,j=>by
  have h1:=putAll_slots s ds (a.put (some d) (s d)) (fun x hx=>by simp [Act.put]; exact h x (List.mem_cons_of_mem _ hx)) j
  show slots (putAll (a.put (some d) (s d)) s ds) j=_
  rw [h1,slots_put a (some d) (s d) (fun j hj=>by cases hj; exact h d (List.mem_cons_self ..))]
  by_cases e:j ∈ ds
  ·simp [e]
  ·by_cases e2:j=d
   ·subst e2; simp [e,updS]
   ·simp [e,e2,updS]
theorem act_ext {a b:Act} (h1:a.tmps.size=b.tmps.size) (h2:a.defers=b.defers) (h3:∀ j,slots a j=slots b j):a=b:=by
 cases a with | mk ta da=>cases b with | mk tb db =>
 simp only [Act.mk.injEq]
 refine ⟨Array.ext h1 fun i hi hj=>?_,h2⟩
 have:=h3 i
 simpa [slots,Array.getD_eq_getD_getElem?,hi,show i < tb.size from hj] using this
theorem wp_region_inv {P:Program} {id:Nat} {l:List Oper} {Q:Exit→Act→World→Prop} {a0:Act} {w0:World} (hm:P.follows .mixedOrders=true) (hb:allBack .any l.toArray=true) (D:List Nat)
  (hD:l.all (fun o=>o.guard == none && match o.dst with | some d=>D.contains d | none=>true)=true) (hsz:D.all (fun d=>decide (d < a0.tmps.size))=true)
  (J:(Nat→Bool)→(Nat→Value)→World→Prop) (h0:J (fun _=>false) (slots a0) w0.drew)
  (hstep:∀ L s w i o,J L s w→(∀ j,j ∉ D→s j=slots a0 j)→l[i]? = some o→L i=false→(∀ e ∈ o.after,Region.binds .any e=true→L e.on=true)→OpStep P o s w (J (fun j=>decide (j=i) || L j)))
  (hdone:∀ L s w,J L s w→(∀ i,i < l.length→L i=true)→Q .normal (putAll a0 s D) w):(Code.region id l.toArray true).wp P Q a0 w0:=by
 have hsz':∀ d ∈ D,d < a0.tmps.size:=fun d hd=>by simpa using List.all_eq_true.1 hsz d hd
 refine wp_region_any hm ?_
 refine wpAny_inv hb (fun L a w=>a.tmps.size=a0.tmps.size∧a.defers=a0.defers∧(∀ j,j ∉ D→slots a j=slots a0 j)∧J L (slots a) w) ?_ ?_ _ _ _ _ (by simp) ?_ ?_
 ·rintro L a w i o ⟨q1,q2,q3,q4⟩ ho hl ha
  have ho':l[i]? = some o:=by simpa using ho
  have hmem:o ∈ l:=List.mem_of_getElem? ho'
  have hg:=List.all_eq_true.1 hD o hmem
  rw [Bool.and_eq_true] at hg
  have hgd:o.guard=none:=by simpa using hg.1
  have hdst:∀ d,o.dst=some d→d ∈ D:=fun d hd=>by have:=hg.2; rw [hd] at this; simpa using this
  have hput:∀ v,slots (a.put o.dst v)=updS (slots a) o.dst v:=fun v=>slots_put a o.dst v fun j hj=>by rw [q1]; exact hsz' j (hdst j hj)
  have hkeep:∀ v w',J (fun j=>decide (j=i) || L j) (updS (slots a) o.dst v) w'→(fun (L:Nat→Bool) (a:Act) (w:World)=>a.tmps.size=a0.tmps.size∧a.defers=a0.defers∧(∀ j,j ∉ D→slots a j=slots a0 j)∧J L (slots a) w) (fun j=>decide (j=i) || L j) (a.put o.dst v) w':=fun v w' hJ=>by
   refine ⟨?_,?_,fun j hj=>?_,by rw [hput]; exact hJ⟩
   ·cases o.dst <;> simp [Act.put,q1]
   ·cases o.dst <;> simp [Act.put,q2]
   ·rw [hput]
    cases hd:o.dst with
    | none=>exact q3 j hj
    | some d =>
     show (if j=d then v else slots a j)=_
     rw [if_neg (fun e=>hj (by rw [e]; exact hdst d hd))]; exact q3 j hj
  have hs:=hstep L (slots a) w i o q4 q3 ho' hl ha
  have hw:Region.wanted o (yielded l.toArray a.tmps)=true:=by simp [Region.wanted,hgd]
  unfold wpOp
  simp only [ho,hw,if_true]
  left
  unfold Oper.wp
  rw [eval_slots]
  unfold OpStep at hs
  generalize (execOp (evalS (slots a)) o).run P w=r at hs
  cases r with
  | ok n w' =>
   cases n with
   | value v=>exact hkeep v w' hs
   | skip=>exact hkeep undef w' hs
   | enter f args =>
    refine Calls.mono hs fun e w'' h=>?_
    obtain ⟨v,rfl,hJ⟩:=h
    exact hkeep v w'' hJ
   | _=>exact hs.elim
  | _=>exact hs.elim
 ·rintro L a w ⟨q1,q2,q3,q4⟩ hall
  have e:a=putAll a0 (slots a) D:=by
   obtain ⟨r1,r2⟩:=putAll_size (slots a) D a0
   refine act_ext (q1.trans r1.symm) (q2.trans r2.symm) fun j=>?_
   rw [putAll_slots _ _ _ hsz']
   by_cases hj:j ∈ D
   ·rw [if_pos hj]
   ·rw [if_neg hj]; exact q3 j hj
  rw [e]
  exact hdone L (slots a) w q4 fun i hi=>hall i (by simpa using hi)
 ·refine Nat.le_trans (List.length_filter_le _ _) (by simp)
 ·refine ⟨rfl,rfl,fun _ _=>rfl,?_⟩
  have e:(fun j=>(Array.replicate l.toArray.size false).getD j false)=fun _=>false:=by
   funext j
   simp only [Array.getD_eq_getD_getElem?,Array.getElem?_replicate]
   split <;> rfl
  rw [e]; exact h0
end Go.Proofs.YtjjggefmmeminacGreat
namespace Go.Proofs.YtjjggefmmeminacGreat
open Go.RowKit
def dstAt (l:List Oper) (i:Nat):Option Nat:=(l[i]?).bind (·.dst)
def valAt (l:List Oper) (s:Nat→Value) (i:Nat):Value:=match dstAt l i with | some d=>s d | none=>undef
def also (L:Nat→Bool) (i:Nat):Nat→Bool:=fun j=>decide (j=i) || L j
def live (con:Nat→Nat) (L:Nat→Bool) (k:Nat):Prop:=L (con k)=false
theorem opStep_value {P:Program} {o:Oper} {s:Nat→Value} {w w':World} {v:Value} {K:(Nat→Value)→World→Prop} (h:(execOp (evalS s) o).run P w = .ok (.value v) w') (hk:K (updS s o.dst v) w'):OpStep P o s w K:=by
 unfold OpStep; rw [h]; exact hk
theorem opStep_skip {P:Program} {o:Oper} {s:Nat→Value} {w w':World} {K:(Nat→Value)→World→Prop} (h:(execOp (evalS s) o).run P w = .ok .skip w') (hk:K (updS s o.dst undef) w'):OpStep P o s w K:=by
 unfold OpStep; rw [h]; exact hk
theorem opStep_enter {P:Program} {o:Oper} {s:Nat→Value} {w w':World} {f : FuncId} {args:Array Value} {K:(Nat→Value)→World→Prop} (h:(execOp (evalS s) o).run P w = .ok (.enter f args) w') (hk:Calls P f args w' fun e w'' => ∃ v,e = .returned v∧K (updS s o.dst v) w''):OpStep P o s w K:=by
 unfold OpStep; rw [h]; exact hk
theorem OpStep.mono {P:Program} {o:Oper} {s:Nat→Value} {w:World} {K K':(Nat→Value)→World→Prop} (h:OpStep P o s w K) (hk:∀ v w',K (updS s o.dst v) w'→K' (updS s o.dst v) w'):OpStep P o s w K':=by
 unfold OpStep at *
 generalize (execOp (evalS s) o).run P w=r at *
 cases r with
 | ok n w' =>
  cases n with
  | value v=>exact hk _ _ h
  | skip=>exact hk _ _ h
  | enter f args=>exact Calls.mono h fun e w'' ⟨v,he,hv⟩=>⟨v,he,hk _ _ hv⟩
  | _=>exact h.elim
 | _=>exact h.elim
def ownDst (l:List Oper):Bool:=(List.range l.length).all fun i=>(List.range l.length).all fun j=>decide (i=j) || match dstAt l i,dstAt l j with
 | some d,some e=>decide (d≠e)
 | _,_=>true
theorem wp_region_as {P:Program} {id:Nat} {l:List Oper} {Q:Exit→Act→World→Prop} {a0:Act} {w0:World} (hm:P.follows .mixedOrders=true) (hb:allBack .any l.toArray=true) (D:List Nat)
  (hD:l.all (fun o=>o.guard == none && match o.dst with | some d=>D.contains d | none=>true)=true) (hsz:D.all (fun d=>decide (d < a0.tmps.size))=true) (ho:ownDst l=true)
  (con:Nat→Nat) (A:(Nat→Bool)→Nat→Value→World→Prop) (G:(Nat→Bool)→(Nat→Value)→World→Prop) (hG:G (fun _=>false) (slots a0) w0.drew)
  (hstep:∀ L s w i o,G L s w→(∀ k,L k=true→k < l.length)→(∀ k o,L k=true→l[k]? = some o→∀ e ∈ o.after,Region.binds .any e=true→L e.on=true)→(∀ k,L k=true→live con L k→A L k (valAt l s k) w)→(∀ j,j ∉ D→s j=slots a0 j)→l[i]? = some o→L i=false→(∀ e ∈ o.after,Region.binds .any e=true→L e.on=true) →
   OpStep P o s w (fun s' w'=>G (also L i) s' w'∧A (also L i) i (valAt l s' i) w'∧∀ k,k≠i→L k=true→live con (also L i) k→A L k (valAt l s k) w→A (also L i) k (valAt l s k) w'))
  (hdone:∀ L s w,G L s w→(∀ k,L k=true→k < l.length)→(∀ i,i < l.length→L i=true)→(∀ k,L k=true→live con L k→A L k (valAt l s k) w)→Q .normal (putAll a0 s D) w):(Code.region id l.toArray true).wp P Q a0 w0:=by
 refine wp_region_inv hm hb D hD hsz (fun L s w=>G L s w∧(∀ k,L k=true→k < l.length)∧(∀ k o,L k=true→l[k]? = some o→∀ e ∈ o.after,Region.binds .any e=true→L e.on=true)∧∀ k,L k=true→live con L k→A L k (valAt l s k) w) ⟨hG,fun k hk=>(by cases hk),fun k _ hk=>(by cases hk),fun k hk=>(by cases hk)⟩ ?_ ?_
 ·rintro L s w i o ⟨q0,q1,qc,q2⟩ hf hi hl ha
  refine (hstep L s w i o q0 q1 qc q2 hf hi hl ha).mono fun v w' hK=>?_
  obtain ⟨r0,r1,r2⟩:=hK
  have hil:i < l.length:=(List.getElem?_eq_some_iff.1 hi).1
  refine ⟨r0,fun k hk=>?_,fun k o' hk ho' e he hbe=>?_,fun k hk hlv=>?_⟩
  ·by_cases e:k=i
   ·rw [e]; exact hil
   ·exact q1 k (by simpa [e] using hk)
  ·by_cases ek:k=i
   ·subst ek
    rw [hi] at ho'
    cases ho'
    show (decide (e.on=k) || L e.on)=true
    rw [ha e he hbe]; simp
   ·have hLk:L k=true:=by simpa [ek] using hk
    show (decide (e.on=i) || L e.on)=true
    rw [qc k o' hLk ho' e he hbe]; simp
  ·by_cases e:k=i
   ·subst e; exact r1
   ·have hLk:L k=true:=by simpa [e] using hk
    have hlv0:live con L k:=by
     unfold live at hlv ⊢
     have hlv':(decide (con k=i) || L (con k))=false:=hlv
     rw [Bool.or_eq_false_iff] at hlv'
     exact hlv'.2
    have hval:valAt l (updS s o.dst v) k=valAt l s k:=by
     unfold valAt
     cases hdk:dstAt l k with
     | none=>rfl
     | some d =>
      cases hdo:o.dst with
      | none=>rfl
      | some d' =>
       show (if d=d' then v else s d)=s d
       have hne:d≠d':=by
        unfold ownDst at ho
        rw [List.all_eq_true] at ho
        have h1:=ho k (by simpa using q1 k hLk)
        rw [List.all_eq_true] at h1
        have h2:=h1 i (by simpa using hil)
        have hdi:dstAt l i=some d':=by unfold dstAt; rw [hi]; exact hdo
        rw [hdk,hdi] at h2
        simpa [e] using h2
       rw [if_neg hne]
    rw [hval]
    exact r2 k e hLk hlv (q2 k hLk hlv0)
 ·rintro L s w ⟨q0,q1,qc,q2⟩ hall
  exact hdone L s w q0 q1 hall q2
end Go.Proofs.YtjjggefmmeminacGreat
namespace Go.Proofs.YtjjggefmmeminacGreat
def idx (n:Nat) (p:Nat→Bool):Int:=match (List.range n).find? p with | some i=>(i:Int) | none => -1
theorem find_range_some {n:Nat} {p:Nat→Bool} {k:Nat} (hk:k < n) (hp:p k=true) (hb:∀ j,j < k→p j=false):(List.range n).find? p=some k:=by
 rw [List.find?_range_eq_some]
 exact ⟨hp,by simpa using hk,fun j hj=>by simp [hb j hj]⟩
theorem find_range_none {n:Nat} {p:Nat→Bool} (hb:∀ j,j < n→p j=false):(List.range n).find? p=none:=by
 rw [List.find?_eq_none]
 intro j hj
 simp [hb j (by simpa using hj)]
theorem idx_hit {n:Nat} {p:Nat→Bool} {k:Nat} (hk:k < n) (hp:p k=true) (hb:∀ j,j < k→p j=false):idx n p=(k:Int):=by
 unfold idx; rw [find_range_some hk hp hb]
theorem idx_none {n:Nat} {p:Nat→Bool} (hb:∀ j,j < n→p j=false):idx n p = -1:=by
 unfold idx; rw [find_range_none hb]
theorem idx_cases (n:Nat) (p:Nat→Bool):(idx n p = -1∧∀ j,j < n→p j=false)∨∃ k:Nat,k < n∧idx n p=(k:Int)∧p k=true∧∀ j,j < k→p j=false:=by
 cases h:(List.range n).find? p with
 | none =>
  left
  rw [List.find?_eq_none] at h
  refine ⟨by unfold idx; simp [List.find?_eq_none.2 h],fun j hj=>?_⟩
  have:=h j (by simpa using hj)
  simpa using this
 | some k =>
  right
  have h':=h
  rw [List.find?_range_eq_some] at h'
  obtain ⟨h1,h2,h3⟩:=h'
  refine ⟨k,by simpa using h2,by unfold idx; rw [h],h1,fun j hj=>?_⟩
  have:=h3 j hj
  simpa using this
def fault (n:Nat) (g:Nat→Int):Int × Int:=match (List.range n).find? (fun i=>g i != 0) with | some i=>(g i,(i:Int)) | none=>(0,0)
theorem fault_hit {n:Nat} {g:Nat→Int} {k:Nat} (hk:k < n) (hp:g k≠0) (hb:∀ j,j < k→g j=0):fault n g=(g k,(k:Int)):=by
 unfold fault; rw [find_range_some hk (by simpa using hp) (fun j hj=>by simp [hb j hj])]
theorem fault_none {n:Nat} {g:Nat→Int} (hb:∀ j,j < n→g j=0):fault n g=(0,0):=by
 unfold fault; rw [find_range_none (fun j hj=>by simp [hb j hj])]
theorem fault_cases (n:Nat) (g:Nat→Int):(fault n g=(0,0)∧∀ j,j < n→g j=0)∨∃ k:Nat,k < n∧fault n g=(g k,(k:Int))∧g k≠0∧∀ j,j < k→g j=0:=by
 rcases idx_cases n (fun i=>g i != 0) with ⟨_,h⟩ | ⟨k,hk,_,h1,h2⟩
 ·left
  have h':∀ j,j < n→g j=0:=fun j hj=>by simpa using h j hj
  exact ⟨fault_none h',h'⟩
 ·right
  have h1':g k≠0:=by simpa using h1
  have h2':∀ j,j < k→g j=0:=fun j hj=>by simpa using h2 j hj
  exact ⟨k,hk,fault_hit hk h1' h2',h1',h2'⟩
theorem idx_congr {n:Nat} {p q:Nat→Bool} (e:∀ j,j < n→p j=q j):idx n p=idx n q:=by
 rcases idx_cases n q with ⟨e1,e2⟩ | ⟨k,hk,e1,e2,e3⟩
 ·rw [e1]; exact idx_none fun j hj=>(e j hj).trans (e2 j hj)
 ·rw [e1]; exact idx_hit hk ((e k hk).trans e2) fun j hj=>(e j (by omega)).trans (e3 j hj)
end Go.Proofs.YtjjggefmmeminacGreat
namespace Go.Proofs.YtjjggefmmeminacGreat
open Go.RowKit Go.Sort
structure LField where
 name:ByteArray
 kind:Int
 type:ByteArray
structure LType where
 name:ByteArray
 fa:Option Addr
 nf:Nat
 fcap:Nat
 F:Nat→LField
structure LVal where
 field:ByteArray
 text:ByteArray
 ka:Option Addr
 nk:Nat
 kcap:Nat
 K:Nat→ByteArray
structure LThing where
 type:ByteArray
 key:ByteArray
 va:Option Addr
 nv:Nat
 vcap:Nat
 V:Nat→LVal
def Small (s:ByteArray):Prop:=s.size≤maxLen
def FieldAt (w:World) (b o:Nat) (f:LField):Prop :=
 w.cell? ⟨b,o,none⟩=some (.string f.name)∧w.cell? ⟨b,o + 1,none⟩=some (.int .i64 f.kind)∧w.cell? ⟨b,o + 2,none⟩=some (.string f.type)∧Small f.name∧Small f.type∧(Lit.int .i64 f.kind).wf=true
def FieldsAt (w:World) (a:Option Addr) (n:Nat) (F:Nat→LField):Prop:=n≤maxLen∧∀ i,i < n→∃ b o,a=some ⟨b,o,none⟩∧FieldAt w b (o + i * 3) (F i)
def TypeAt (w:World) (b o:Nat) (t:LType):Prop :=
 w.cell? ⟨b,o,none⟩=some (.string t.name)∧w.cell? ⟨b,o + 1,none⟩=some (.slice t.fa t.nf t.fcap)∧t.nf≤t.fcap∧Small t.name∧FieldsAt w t.fa t.nf t.F
def TypesAt (w:World) (a:Option Addr) (n:Nat) (T:Nat→LType):Prop:=n≤maxLen∧∀ i,i < n→∃ b o,a=some ⟨b,o,none⟩∧TypeAt w b (o + i * 2) (T i)
def KeysAt (w:World) (a:Option Addr) (n:Nat) (K:Nat→ByteArray):Prop:=n≤maxLen∧∀ i,i < n→∃ b o,a=some ⟨b,o,none⟩∧w.cell? ⟨b,o + i,none⟩=some (.string (K i))∧Small (K i)
def ValAt (w:World) (b o:Nat) (v:LVal):Prop :=
 w.cell? ⟨b,o,none⟩=some (.string v.field)∧w.cell? ⟨b,o + 1,none⟩=some (.string v.text)∧w.cell? ⟨b,o + 2,none⟩=some (.slice v.ka v.nk v.kcap)∧v.nk≤v.kcap∧Small v.field∧Small v.text∧KeysAt w v.ka v.nk v.K
def ValsAt (w:World) (a:Option Addr) (n:Nat) (V:Nat→LVal):Prop:=n≤maxLen∧∀ i,i < n→∃ b o,a=some ⟨b,o,none⟩∧ValAt w b (o + i * 3) (V i)
def ThingAt (w:World) (b o:Nat) (x:LThing):Prop :=
 w.cell? ⟨b,o,none⟩=some (.string x.type)∧w.cell? ⟨b,o + 1,none⟩=some (.string x.key)∧w.cell? ⟨b,o + 2,none⟩=some (.slice x.va x.nv x.vcap)∧x.nv≤x.vcap∧Small x.type∧Small x.key∧ValsAt w x.va x.nv x.V
def ThingsAt (w:World) (a:Option Addr) (n:Nat) (X:Nat→LThing):Prop:=n≤maxLen∧∀ i,i < n→∃ b o,a=some ⟨b,o,none⟩∧ThingAt w b (o + i * 3) (X i)
def eqs (a b:ByteArray):Bool:=a.data.toList == b.data.toList
theorem eqs_eq (a b:ByteArray):(a.toList == b.toList)=eqs a b:=by unfold eqs; rw [ByteArray.toList_eq,ByteArray.toList_eq]
theorem toList_inj {a b:ByteArray} : a.toList=b.toList ↔ a=b:=by
 rw [ByteArray.toList_eq,ByteArray.toList_eq]
 constructor
 ·intro h
  cases a with | mk a=>cases b with | mk b=>exact congrArg ByteArray.mk (Array.toList_inj.1 h)
 ·rintro rfl; rfl
theorem eqs_iff {a b:ByteArray} : eqs a b=true ↔ a=b:=by rw [← eqs_eq,beq_iff_eq]; exact toList_inj
theorem toList_nil {s:ByteArray} : s.toList = [] ↔ s.size=0:=by
 rw [ByteArray.toList_eq]
 constructor
 ·intro h; have:=congrArg List.length h; simpa using this
 ·intro h; apply List.eq_nil_of_length_eq_zero; simpa using h
def find (n:Nat) (T:Nat→LType) (name:ByteArray):Int:=idx n (fun i=>eqs (T i).name name)
def fieldIdx (n:Nat) (F:Nat→LField) (name:ByteArray):Int:=idx n (fun i=>eqs (F i).name name)
theorem below_drewN (w:World) (q:Nat):Below w.heap.size w (w.drewN q):=⟨rfl,rfl,rfl,Nat.le_refl _,fun _ _=>rfl⟩
theorem keptCell {w w':World} (h:Below w.heap.size w w') {p:Addr} {v:Value} (hc:w.cell? p=some v):w'.cell? p=some v :=
 (h.cell (block_lt_of_cell hc)).trans hc
theorem FieldAt.kept {w w':World} (h:Below w.heap.size w w') {b o:Nat} {f : LField} (hf:FieldAt w b o f):FieldAt w' b o f :=
 ⟨keptCell h hf.1,keptCell h hf.2.1,keptCell h hf.2.2.1,hf.2.2.2⟩
theorem FieldsAt.kept {w w':World} (h:Below w.heap.size w w') {a:Option Addr} {n:Nat} {F:Nat→LField} (hf:FieldsAt w a n F):FieldsAt w' a n F :=
 ⟨hf.1,fun i hi=>let ⟨b,o,e,hh⟩:=hf.2 i hi; ⟨b,o,e,hh.kept h⟩⟩
theorem TypeAt.kept {w w':World} (h:Below w.heap.size w w') {b o:Nat} {t : LType} (ht:TypeAt w b o t):TypeAt w' b o t :=
 ⟨keptCell h ht.1,keptCell h ht.2.1,ht.2.2.1,ht.2.2.2.1,ht.2.2.2.2.kept h⟩
theorem TypesAt.kept {w w':World} (h:Below w.heap.size w w') {a:Option Addr} {n:Nat} {T:Nat→LType} (ht:TypesAt w a n T):TypesAt w' a n T :=
 ⟨ht.1,fun i hi=>let ⟨b,o,e,hh⟩:=ht.2 i hi; ⟨b,o,e,hh.kept h⟩⟩
theorem KeysAt.kept {w w':World} (h:Below w.heap.size w w') {a:Option Addr} {n:Nat} {K:Nat→ByteArray} (hk:KeysAt w a n K):KeysAt w' a n K :=
 ⟨hk.1,fun i hi=>let ⟨b,o,e,hh,hs⟩:=hk.2 i hi; ⟨b,o,e,keptCell h hh,hs⟩⟩
theorem ValAt.kept {w w':World} (h:Below w.heap.size w w') {b o:Nat} {v:LVal} (hv:ValAt w b o v):ValAt w' b o v :=
 ⟨keptCell h hv.1,keptCell h hv.2.1,keptCell h hv.2.2.1,hv.2.2.2.1,hv.2.2.2.2.1,hv.2.2.2.2.2.1,hv.2.2.2.2.2.2.kept h⟩
theorem ValsAt.kept {w w':World} (h:Below w.heap.size w w') {a:Option Addr} {n:Nat} {V:Nat→LVal} (hv:ValsAt w a n V):ValsAt w' a n V :=
 ⟨hv.1,fun i hi=>let ⟨b,o,e,hh⟩:=hv.2 i hi; ⟨b,o,e,hh.kept h⟩⟩
theorem ThingAt.kept {w w':World} (h:Below w.heap.size w w') {b o:Nat} {x:LThing} (hx:ThingAt w b o x):ThingAt w' b o x :=
 ⟨keptCell h hx.1,keptCell h hx.2.1,keptCell h hx.2.2.1,hx.2.2.2.1,hx.2.2.2.2.1,hx.2.2.2.2.2.1,hx.2.2.2.2.2.2.kept h⟩
theorem ThingsAt.kept {w w':World} (h:Below w.heap.size w w') {a:Option Addr} {n:Nat} {X:Nat→LThing} (hx:ThingsAt w a n X):ThingsAt w' a n X :=
 ⟨hx.1,fun i hi=>let ⟨b,o,e,hh⟩:=hx.2 i hi; ⟨b,o,e,hh.kept h⟩⟩
theorem TypesAt.less {w:World} {a:Option Addr} {n m:Nat} {T:Nat→LType} (h:TypesAt w a n T) (hm:m≤n):TypesAt w a m T :=
 ⟨Nat.le_trans hm h.1,fun i hi=>h.2 i (Nat.lt_of_lt_of_le hi hm)⟩
theorem FieldsAt.less {w:World} {a:Option Addr} {n m:Nat} {F:Nat→LField} (h:FieldsAt w a n F) (hm:m≤n):FieldsAt w a m F :=
 ⟨Nat.le_trans hm h.1,fun i hi=>h.2 i (Nat.lt_of_lt_of_le hi hm)⟩
theorem ThingsAt.less {w:World} {a:Option Addr} {n m:Nat} {X:Nat→LThing} (h:ThingsAt w a n X) (hm:m≤n):ThingsAt w a m X :=
 ⟨Nat.le_trans hm h.1,fun i hi=>h.2 i (Nat.lt_of_lt_of_le hi hm)⟩
theorem below1 (w:World) (o:Obj):Below w.heap.size w (w.alloc o):=(Below.refl _ _).alloc (Nat.le_refl _) o
theorem below2 (w:World) (o o':Obj):Below w.heap.size w ((w.alloc o).alloc o'):=((Below.refl _ _).alloc (Nat.le_refl _) o).alloc (by simp) o'
end Go.Proofs.YtjjggefmmeminacGreat
namespace Go.Proofs.YtjjggefmmeminacGreat
open Go.RowKit Go.Sort
theorem run_append_any {P:Program} (w:World) (base:Nat) (t ty e:TypeId) (i:TypeInfo) (z:Value) (size bytes:Nat) (ht:P.underlying t=some (.slice e)) (hi:P.info? e=some i) (hz:i.zero=some z)
  (hsize:i.size=size) (hby:i.bytes=bytes) (hzs:z.cells.size=size) (hsz:0 < size)
  (v:Value) (n:Nat) (xs:List Value) (hown:w.ownsRow base e size v n xs)
  (src:Option Addr) (m c:Nat) (news:List Value) (hl:news.length=m * size) (hnews:∀ ad,src=some ad→∀ j u,news[j]? = some u→w.cell? (ad.add j)=some u) (hnil:src=none→m=0) (h1:∀ u ∈ news,u.oneCell'=true)
  (h63:n + m≤maxLen) (hbytes:(n + m) * bytes≤140737488355328) (hbase:base≤w.heap.size) :
  ∃ v' w',(Builtin.append_ #[t,t] ty #[v,.slice src m c]).run P w = .ok v' w'∧w'.ownsRow base e size v' (n + m) (xs ++ news)∧w.grownBy w' v.ownBlock∧(v'.ownBlock=v.ownBlock∨v'.ownBlock=some w.heap.size):=by
 cases src with
 | some ad =>
  obtain ⟨v',w',hr,h2,h3,-,h5⟩:=run_append_own_at (P:=P) w base t ty e i z size bytes ht hi hz hsize hby hzs hsz v n xs hown ad m c news hl (hnews ad rfl) h1 h63 hbytes hbase
  exact ⟨v',w',hr,h2,h3,h5⟩
 | none =>
  have hm:=hnil rfl
  subst hm
  have hn:news = []:=List.eq_nil_of_length_eq_zero (by simpa using hl)
  subst hn
  refine ⟨v,w,?_,by simpa using hown,⟨rfl,rfl,rfl,Nat.le_refl _,fun _ _ _=>rfl⟩,.inl rfl⟩
  rcases hown.2 with ⟨rfl,rfl⟩ | ⟨g,cap,cur,rfl,_,_,hnc,_⟩
  ·simp [Builtin.append_,run_underlying ht,sizeOf,typeInfo,hi,Builtin.lenOf,Builtin.firstCells]
  ·simp [Builtin.append_,run_underlying ht,sizeOf,typeInfo,hi,Builtin.lenOf,Builtin.firstCells,hnc,storeCells]
theorem wpList_append_any {P:Program} (w:World) {ops:Array Oper} {rest:List Oper} {o:Oper} {a:Act} {Q:Exit→Act→World→Prop} (hgd:o.guard=none) (s x:Operand) (t:TypeId)
  (ho:o.op = .call { callee:=.builtin .append,args:=#[s,x],argTypes:=#[t,t] })
  (base:Nat) (e:TypeId) (i:TypeInfo) (z:Value) (size bytes:Nat) (ht:P.underlying t=some (.slice e)) (hi:P.info? e=some i) (hz:i.zero=some z)
  (hsize:i.size=size) (hby:i.bytes=bytes) (hzs:z.cells.size=size) (hsz:0 < size)
  (v:Value) (n:Nat) (xs:List Value) (hs:a.eval s=v) (hown:w.ownsRow base e size v n xs)
  (src:Option Addr) (m c:Nat) (news:List Value) (hx:a.eval x = .slice src m c) (hl:news.length=m * size) (hnews:∀ ad,src=some ad→∀ j u,news[j]? = some u→w.cell? (ad.add j)=some u) (hnil:src=none→m=0) (h1:∀ u ∈ news,u.oneCell'=true)
  (h63:n + m≤maxLen) (hbytes:(n + m) * bytes≤140737488355328) (hbase:base≤w.heap.size)
  (h:∀ v' w',w'.ownsRow base e size v' (n + m) (xs ++ news)→w.grownBy w' v.ownBlock→(v'.ownBlock=v.ownBlock∨v'.ownBlock=some w.heap.size)→wpList P ops Q rest (a.put o.dst v') w') :
  wpList P ops Q (o :: rest) a w:=by
 refine wpList_plain hgd fun K hK=>?_
 obtain ⟨v',w',hr,h2,h3,h5⟩:=run_append_any (P:=P) w base t o.type e i z size bytes ht hi hz hsize hby hzs hsz v n xs hown src m c news hl hnews hnil h1 h63 hbytes hbase
 unfold Oper.wp execOp
 simp only [ho,resolve,invoke,builtin,Sem.run_bind,Sem.run_pure,Result.andThen_ok,List.map_toArray,List.map_cons,List.map_nil,hs,hx,hr]
 exact hK _ _ (h v' w' h2 h3 h5)
theorem info_parts' {P:Program} {e:TypeId} {z:Option Value} {s b:Nat} (h:(P.info? e).map (fun i=>(i.zero,i.size,i.bytes))=some (z,s,b)):∃ i,P.info? e=some i∧i.zero=z∧i.size=s∧i.bytes=b:=by
 cases hi:P.info? e with
 | none=>rw [hi] at h; simp at h
 | some i=>rw [hi] at h; simp at h; exact ⟨i,rfl,h⟩
def typeCell (T:Nat→LType) (j:Nat):Value:=if j % 2=0 then .string (T (j / 2)).name else .slice (T (j / 2)).fa (T (j / 2)).nf (T (j / 2)).fcap
def typeCells (T:Nat→LType) (n:Nat):List Value:=(List.range (n * 2)).map (typeCell T)
theorem typeCells_length (T:Nat→LType) (n:Nat):(typeCells T n).length=n * 2:=by simp [typeCells]
theorem typeCells_get {T:Nat→LType} {n j:Nat} (h:j < n * 2):(typeCells T n)[j]? = some (typeCell T j):=by
 unfold typeCells; rw [List.getElem?_map,List.getElem?_range h]; rfl
theorem TypesAt.news {w:World} {a:Option Addr} {n:Nat} {T:Nat→LType} (h:TypesAt w a n T):∀ ad,a=some ad→∀ j u,(typeCells T n)[j]? = some u→w.cell? (ad.add j)=some u:=by
 intro ad ha j u hu
 by_cases hj:j < n * 2
 ·rw [typeCells_get hj] at hu
  obtain ⟨b,o,ha',h0,h1,-⟩:=h.2 (j / 2) (by omega)
  rw [ha] at ha'
  cases ha'
  have e:j=j / 2 * 2∨j=j / 2 * 2 + 1:=by omega
  rw [WideShapes.add_plain]
  injection hu with hu
  subst hu
  unfold typeCell
  rcases e with e | e
  ·rw [if_pos (by omega)]
   have:o + j=o + j / 2 * 2:=by omega
   rw [this]; exact h0
  ·rw [if_neg (by omega)]
   have:o + j=o + j / 2 * 2 + 1:=by omega
   rw [this]; exact h1
 ·rw [List.getElem?_eq_none (by rw [typeCells_length]; omega)] at hu
  cases hu
theorem TypesAt.nil {w:World} {n:Nat} {T:Nat→LType} (h:TypesAt w none n T):n=0:=by
 rcases Nat.eq_zero_or_pos n with h0 | h0
 ·exact h0
 ·obtain ⟨b,o,e,_⟩:=h.2 0 h0
  cases e
end Go.Proofs.YtjjggefmmeminacGreat
namespace Go.Proofs.YtjjggefmmeminacGreat
open Go.RowKit Go.Sort
theorem Hid.intro {p:Prop} (h:p):Hid p:=h
def Row (w:World) (base:Nat) (e:TypeId) (size:Nat) (v:Value) (n:Nat) (f:Nat→Value):Prop:=w.ownsRow base e size v n ((List.range (n * size)).map f)
theorem range_map_congr {n:Nat} {f g:Nat→Value} (h:∀ j,j < n→f j=g j):(List.range n).map f=(List.range n).map g :=
 List.map_congr_left fun j hj=>h j (by simpa using hj)
theorem range_map_set {n j:Nat} {f : Nat→Value} {u:Value} : ((List.range n).map f).set j u=(List.range n).map (fun i=>if i=j then u else f i):=by
 apply List.ext_getElem?
 intro i
 rw [List.getElem?_set]
 by_cases hij:j=i
 ·subst hij
  by_cases hi:j < n
  ·simp [hi]
  ·simp [hi]
 ·rw [if_neg hij]
  by_cases hi:i < n
  ·simp [hi,Ne.symm hij]
  ·simp [hi]
theorem Row.congr {w:World} {base e size n:Nat} {v:Value} {f g:Nat→Value} (h:Row w base e size v n f) (hfg:∀ j,j < n * size→f j=g j):Row w base e size v n g:=by
 unfold Row at *; rw [← range_map_congr hfg]; exact h
theorem Row.shape {w:World} {base e size n:Nat} {v:Value} {f : Nat→Value} (h:Row w base e size v n f):(v = .slice none 0 0∧n=0)∨∃ g cap,v = .slice (some ⟨g,0,none⟩) n cap∧base≤g∧n≤cap∧cap≤maxLen:=by
 rcases h.2 with h | ⟨g,cap,cur,hv,hb,-,hn,hm,-⟩
 ·exact .inl h
 ·exact .inr ⟨g,cap,hv,hb,hn,hm⟩
theorem Row.cell {w:World} {base e size n g cap:Nat} {f : Nat→Value} (h:Row w base e size (.slice (some ⟨g,0,none⟩) n cap) n f) {j:Nat} (hj:j < n * size):w.cell? ⟨g,j,none⟩=some (f j):=by
 have:=World.ownsRow.cellAt h j hj
 rw [this]; simp [hj]
theorem Row.free {w:World} {base e size n g cap:Nat} {f : Nat→Value} (h:Row w base e size (.slice (some ⟨g,0,none⟩) n cap) n f) (j:Nat):w.frozen? ⟨g,j,none⟩=false:=World.ownsRow.frozenAt h j
theorem Row.set {w:World} {base e size n g cap:Nat} {f : Nat→Value} (h:Row w base e size (.slice (some ⟨g,0,none⟩) n cap) n f) (j:Nat) (u:Value):Row (w.setCell ⟨g,j,none⟩ u) base e size (.slice (some ⟨g,0,none⟩) n cap) n (fun i=>if i=j then u else f i):=by
 unfold Row
 rw [← range_map_set]
 exact (World.ownsRow.stored h j u).1
theorem Row.at {w w':World} {base e size n:Nat} {v:Value} {f : Nat→Value} (h:Row w base e size v n f) (hb:∀ k,v.ownBlock=some k→w'.heap[k]? = w.heap[k]?):Row w' base e size v n f:=by
 refine ⟨h.1,?_⟩
 rcases h.2 with h | ⟨g,cap,cur,rfl,hg,hh,r⟩
 ·exact .inl h
 ·exact .inr ⟨g,cap,cur,rfl,hg,(hb g rfl).trans hh,r⟩
theorem Row.obj {w:World} {base e size n:Nat} {v:Value} {f : Nat→Value} (h:Row w base e size v n f) {k:Nat} (hk:v.ownBlock=some k):∃ cur,w.heap[k]? = some (.cells cur e (0,0)):=by
 rcases h.2 with ⟨rfl,_⟩ | ⟨g,cap,cur,rfl,hg,hh,r⟩
 ·cases hk
 ·cases hk; exact ⟨cur,hh⟩
theorem Row.lt {w:World} {base e size n:Nat} {v:Value} {f : Nat→Value} (h:Row w base e size v n f) {k:Nat} (hk:v.ownBlock=some k):base≤k∧k < w.heap.size:=World.ownsRow.lt h k hk
theorem Row.set_other {w:World} {base e size n:Nat} {v:Value} {f : Nat→Value} (h:Row w base e size v n f) {p:Addr} (hp:v.ownBlock≠some p.block) (u:Value):Row (w.setCell p u) base e size v n f :=
 h.at fun k hk=>Below.heap_setCell _ _ _ _ (fun e=>hp (by rw [hk,e]))
theorem Row.grown {w w':World} {base e size n:Nat} {v:Value} {f : Nat→Value} {row:Option Nat} (h:Row w base e size v n f) (hg:w.grownBy w' row) (hr:∀ k,v.ownBlock=some k→row≠some k):Row w' base e size v n f :=
 h.at fun k hk=>hg.block k (h.lt hk).2 (fun e=>hr k hk e.symm)
theorem Row.kept {w w':World} {base e size n:Nat} {v:Value} {f : Nat→Value} (h:Row w base e size v n f) (hB:Below w.heap.size w w'):Row w' base e size v n f :=
 h.at fun k hk=>hB.block k (h.lt hk).2
theorem Row.ne {w:World} {base base' e e' size size' n n':Nat} {v v':Value} {f f':Nat→Value} (h:Row w base e size v n f) (h':Row w base' e' size' v' n' f') (he:e≠e') {k:Nat} (hk:v.ownBlock=some k):v'.ownBlock≠some k:=by
 intro hk'
 obtain ⟨c,h1⟩:=h.obj hk
 obtain ⟨c',h2⟩:=h'.obj hk'
 rw [h1] at h2
 simp at h2
 exact he h2.2
def textCell (O:Nat→ByteArray) (j:Nat):Value:=.string (O j)
theorem Row.slice {w:World} {base e size n:Nat} {v:Value} {f : Nat→Value} (h:Row w base e size v n f):∃ a cap,v = .slice a n cap∧n≤cap:=by
 rcases h.shape with ⟨rfl,rfl⟩ | ⟨g,cap,rfl,-,hc,-⟩
 ·exact ⟨none,0,rfl,Nat.le_refl _⟩
 ·exact ⟨_,cap,rfl,hc⟩
theorem Row.keysAt {w:World} {base e n:Nat} {v:Value} {O:Nat→ByteArray} (h:Row w base e 1 v n (textCell O)) (hn:n≤maxLen) (hg:∀ j,j < n→Small (O j)):∃ a cap,v = .slice a n cap∧n≤cap∧KeysAt w a n O:=by
 rcases h.shape with ⟨rfl,rfl⟩ | ⟨g,cap,rfl,-,hc,-⟩
 ·exact ⟨none,0,rfl,Nat.le_refl _,Nat.zero_le _,fun i hi=>absurd hi (Nat.not_lt_zero _)⟩
 ·refine ⟨_,cap,rfl,hc,hn,fun i hi=>⟨g,0,rfl,?_,hg i hi⟩⟩
  rw [h.cell (by omega),Nat.zero_add]; rfl
structure Boxed (w Z:World) (b:Nat) (x y:Int):Prop where
 blk:Z.heap[b]? = some (.cells #[.int .i64 x,.int .i64 y] 45 (0,0))
 keep:∀ k,k < w.heap.size→k≠b→Z.heap[k]? = w.heap[k]?
 old:∀ o,w.heap[b]? = some o→∃ c,o = .cells c 45 (0,0)
 os:Z.os=w.os
 tape:Z.tape=w.tape
 output:Z.output=w.output
 size:w.heap.size≤Z.heap.size
theorem Boxed.below {w0 w Z:World} {b B:Nat} {x y:Int} (h:Boxed w Z b x y) (hb:Below B w0 w) (hB:B≤b) (hw:B≤w.heap.size):Below B w0 Z :=
 hb.trans ⟨h.os,h.tape,h.output,h.size,fun k hk=>h.keep k (by omega) (by omega)⟩
theorem box_cells {w:World} {b:Nat} {x y:Int} (h:w.heap[b]? = some (.cells #[.int .i64 x,.int .i64 y] 45 (0,0))):w.cell? ⟨b,0,none⟩=some (.int .i64 x)∧w.cell? ⟨b,1,none⟩=some (.int .i64 y)∧w.frozen? ⟨b,0,none⟩=false∧w.frozen? ⟨b,1,none⟩=false:=by
 simp [World.cell?,World.frozen?,h]
theorem boxed_set {w:World} {b:Nat} {x y u v:Int} (h:w.heap[b]? = some (.cells #[.int .i64 x,.int .i64 y] 45 (0,0))):Boxed w ((w.setCell ⟨b,0,none⟩ (.int .i64 u)).setCell ⟨b,1,none⟩ (.int .i64 v)) b u v:=by
 have h1:=heap_setCell_same w b 0 _ 45 (.int .i64 u) h
 have h2:=heap_setCell_same _ b 1 _ 45 (.int .i64 v) h1
 refine ⟨by rw [h2]; rfl,fun k _ hk=>?_,fun o ho=>by rw [h] at ho; cases ho; exact ⟨_,rfl⟩,rfl,rfl,rfl,by simp⟩
 rw [Below.heap_setCell _ _ _ _ hk,Below.heap_setCell _ _ _ _ hk]
theorem Boxed.c0 {w Z:World} {b:Nat} {x y:Int} (h:Boxed w Z b x y):Z.cell? ⟨b,0,none⟩=some (.int .i64 x):=by simp [World.cell?,h.blk]
theorem Boxed.c1 {w Z:World} {b:Nat} {x y:Int} (h:Boxed w Z b x y):Z.cell? ⟨b,1,none⟩=some (.int .i64 y):=by simp [World.cell?,h.blk]
theorem Boxed.cell {w Z:World} {b:Nat} {x y:Int} (h:Boxed w Z b x y) {p:Addr} {v:Value} (hp:w.cell? p=some v) (hne:p.block≠b):Z.cell? p=some v :=
 (World.cell?_of_block (w:=w) (h.keep p.block (block_lt_of_cell hp) hne)).trans hp
theorem alloc_news (w:World) (cs:Array Value) (t:TypeId):∀ ad,some (⟨w.heap.size,0,none⟩:Addr)=some ad→∀ j u,cs.toList[j]? = some u→(w.alloc (.cells cs t)).cell? (ad.add j)=some u:=by
 intro ad had j u hu
 cases had
 rw [WideShapes.add_plain,World.cell?_alloc_at _ _ _ _ rfl]
 simpa using hu
theorem Tryz.info9:(Tryz.prog.info? 9).map (fun i=>(i.zero,i.size,i.bytes))=some (some (.string ⟨#[]⟩),1,16):=by kernel_rfl
end Go.Proofs.YtjjggefmmeminacGreat
namespace Go.Proofs.YtjjggefmmeminacGreat
open Go.RowKit
theorem also_no {L:Nat→Bool} {i k:Nat} (h:k≠i):also L i k=L k:=by unfold also; simp [h]
theorem also_yes {L:Nat→Bool} {i:Nat} : also L i i=true:=by unfold also; simp
theorem updS_no {s:Nat→Value} {d k:Nat} {v:Value} (h:k≠d):updS s (some d) v k=s k:=by show (if k=d then v else s k)=s k; rw [if_neg h]
theorem updS_yes {s:Nat→Value} {d:Nat} {v:Value} : updS s (some d) v d=v:=by show (if d=d then v else s d)=v; rw [if_pos rfl]
def asV (sk:List Nat) (vals:List Value) (_:Nat→Bool) (k:Nat) (x:Value) (_:World):Prop:=if sk.contains k=true then True else x=vals.getD k undef
structure Bx where
 op:Nat
 st:Nat
 slot:Nat
 zero:Array Value
 new:Array Value
 t:TypeId
structure boxG (w5:World) (bx:List Bx) (L:Nat→Bool) (s:Nat→Value) (w:World):Prop where
 below:Below w5.heap.size w5 w
 box:∀ q,q ∈ bx→L q.op=true→∃ b,s q.slot = .pointer (some ⟨b,0,none⟩)∧w5.heap.size≤b∧w.heap[b]? = some (.cells (if L q.st then q.new else q.zero) q.t (0,0))
 ne:∀ q q',q ∈ bx→q' ∈ bx→q.slot≠q'.slot→L q.op=true→L q'.op=true→s q.slot≠s q'.slot
theorem boxG.start {w5:World} {bx:List Bx} {s:Nat→Value} : boxG w5 bx (fun _=>false) s w5.drew:=⟨(Below.refl _ _).drew,fun _ _ h=>(by cases h),fun _ _ _ _ _ h=>(by cases h)⟩
theorem boxG.step {w5 w w':World} {bx:List Bx} {L:Nat→Bool} {s:Nat→Value} (h:boxG w5 bx L s w) {i d:Nat} (hB:Below w.heap.size w w') (hi:bx.all (fun q => !Nat.beq q.op i && !Nat.beq q.st i && !Nat.beq q.slot d)=true) (v:Value):boxG w5 bx (also L i) (updS s (some d) v) w':=by
 have hq:∀ q,q ∈ bx→q.op≠i∧q.st≠i∧q.slot≠d:=fun q hq=>by
  have:=List.all_eq_true.1 hi q hq
  simp only [Bool.and_eq_true,Bool.not_eq_true'] at this
  exact ⟨Nat.ne_of_beq_eq_false this.1.1,Nat.ne_of_beq_eq_false this.1.2,Nat.ne_of_beq_eq_false this.2⟩
 refine ⟨h.below.trans (hB.mono h.below.size),fun q hm hL=>?_,fun q q' hm hm' hne hL hL'=>?_⟩
 ·obtain ⟨q1,q2,q3⟩:=hq q hm
  rw [also_no q1] at hL
  obtain ⟨b,e,hb,ho⟩:=h.box q hm hL
  exact ⟨b,(updS_no q3).trans e,hb,by rw [also_no q2]; exact (hB.block b (lt_of_block ho)).trans ho⟩
 ·rw [also_no (hq q hm).1] at hL
  rw [also_no (hq q' hm').1] at hL'
  rw [updS_no (hq q hm).2.2,updS_no (hq q' hm').2.2]
  exact h.ne q q' hm hm' hne hL hL'
def apartB (bx:List Bx) (q:Bx):Bool:=bx.all fun p=>(Nat.beq p.slot q.slot) || (!Nat.beq p.op q.op && !Nat.beq p.st q.op && !Nat.beq p.op q.st && !Nat.beq p.st q.st)
theorem apartB_spec {bx:List Bx} {q:Bx} (h:apartB bx q=true) {p:Bx} (hp:p ∈ bx) (hne:p.slot≠q.slot):p.op≠q.op∧p.st≠q.op∧p.op≠q.st∧p.st≠q.st:=by
 have:=List.all_eq_true.1 h p hp
 rw [Bool.or_eq_true] at this
 rcases this with h1 | h1
 ·exact absurd (Nat.eq_of_beq_eq_true h1) hne
 ·simp only [Bool.and_eq_true,Bool.not_eq_true'] at h1
  exact ⟨Nat.ne_of_beq_eq_false h1.1.1.1,Nat.ne_of_beq_eq_false h1.1.1.2,Nat.ne_of_beq_eq_false h1.1.2,Nat.ne_of_beq_eq_false h1.2⟩
theorem boxG.alloc {w5 w:World} {bx:List Bx} {L:Nat→Bool} {s:Nat→Value} (h:boxG w5 bx L s w) {q:Bx} (hu:∀ p,p ∈ bx→p.slot=q.slot→p=q) (ha:apartB bx q=true) (hst:q.st≠q.op) (hL:L q.st=false) :
  boxG w5 bx (also L q.op) (updS s (some q.slot) (.pointer (some ⟨w.heap.size,0,none⟩))) (w.alloc (.cells q.zero q.t)):=by
 have hz:=h.below.size
 refine ⟨h.below.trans ((below1 w _).mono hz),fun p hm hLp=>?_,fun p p' hm hm' hne hLp hLp'=>?_⟩
 ·by_cases e:p.slot=q.slot
  ·obtain rfl:=hu p hm e
   exact ⟨w.heap.size,updS_yes,hz,by rw [also_no hst,hL]; exact heap_alloc_new _ _⟩
  ·obtain ⟨q1,q2,-,-⟩:=apartB_spec ha hm e
   rw [also_no q1] at hLp
   obtain ⟨b,e',hb,ho⟩:=h.box p hm hLp
   exact ⟨b,(updS_no e).trans e',hb,by rw [also_no q2]; exact (Below.heap_alloc _ _ _ (lt_of_block ho)).trans ho⟩
 ·by_cases e:p.slot=q.slot
  ·have e2:p'.slot≠q.slot:=fun e2=>hne (e.trans e2.symm)
   rw [also_no (apartB_spec ha hm' e2).1] at hLp'
   obtain ⟨b,e',hb,ho⟩:=h.box p' hm' hLp'
   rw [updS_no e2,e',e,updS_yes]
   intro h9; cases h9; have:=lt_of_block ho; omega
  ·rw [also_no (apartB_spec ha hm e).1] at hLp
   obtain ⟨b,e',hb,ho⟩:=h.box p hm hLp
   by_cases e2:p'.slot=q.slot
   ·rw [updS_no e,e',e2,updS_yes]
    intro h9; cases h9; have:=lt_of_block ho; omega
   ·rw [also_no (apartB_spec ha hm' e2).1] at hLp'
    rw [updS_no e,updS_no e2]
    exact h.ne p p' hm hm' hne hLp hLp'
structure OnlyB (b:Nat) (w w':World):Prop where
 os:w'.os=w.os
 tape:w'.tape=w.tape
 output:w'.output=w.output
 size:w'.heap.size=w.heap.size
 block:∀ k,k≠b→w'.heap[k]? = w.heap[k]?
theorem OnlyB.refl (b:Nat) (w:World):OnlyB b w w:=⟨rfl,rfl,rfl,rfl,fun _ _=>rfl⟩
theorem OnlyB.set {b:Nat} {w w':World} (h:OnlyB b w w') (o:Nat) (v:Value):OnlyB b w (w'.setCell ⟨b,o,none⟩ v) :=
 ⟨h.os,h.tape,h.output,by simpa using h.size,fun k hk=>(Below.heap_setCell _ _ _ _ hk).trans (h.block k hk)⟩
theorem OnlyB.below {b N:Nat} {w w':World} (h:OnlyB b w w') (hb:N≤b):Below N w w':=⟨h.os,h.tape,h.output,Nat.le_of_eq h.size.symm,fun k hk=>h.block k (by omega)⟩
theorem boxG.store {w5 w w':World} {bx:List Bx} {L:Nat→Bool} {s:Nat→Value} (h:boxG w5 bx L s w) {q:Bx} (hu:∀ p,p ∈ bx→p.slot=q.slot→p=q) (ha:apartB bx q=true) (hq:q ∈ bx) (hst:q.op≠q.st) (hL:L q.op=true) {b:Nat} (hb:s q.slot = .pointer (some ⟨b,0,none⟩)) (hlb:w5.heap.size≤b) (hn:w'.heap[b]? = some (.cells q.new q.t (0,0))) (ho:OnlyB b w w') (v:Value) :
  boxG w5 bx (also L q.st) (updS s none v) w':=by
 refine ⟨h.below.trans (ho.below hlb),fun p hm hLp=>?_,fun p p' hm hm' hne hLp hLp'=>?_⟩
 ·by_cases e:p.slot=q.slot
  ·obtain rfl:=hu p hm e
   exact ⟨b,hb,hlb,by rw [also_yes]; exact hn⟩
  ·obtain ⟨-,-,q3,q4⟩:=apartB_spec ha hm e
   rw [also_no q3] at hLp
   obtain ⟨b',e',hb',ho'⟩:=h.box p hm hLp
   refine ⟨b',e',hb',?_⟩
   rw [also_no q4,ho.block b' (fun e9=>?_)]
   ·exact ho'
   ·subst e9; exact h.ne p q hm hq e hLp hL (e'.trans hb.symm)
 ·have h1:∀ p,p ∈ bx→also L q.st p.op=true→L p.op=true:=fun p hm hLp=>by
   by_cases e:p.slot=q.slot
   ·obtain rfl:=hu p hm e; exact hL
   ·rw [also_no (apartB_spec ha hm e).2.2.1] at hLp; exact hLp
  exact h.ne p p' hm hm' hne (h1 p hm hLp) (h1 p' hm' hLp')
theorem run_callFn {P:Program} {o:Oper} {s:Nat→Value} {w:World} (f:FuncId) (args:Array Operand) (tys:Array TypeId) (ho:o.op = .call { callee:=.value (.func f),args:=args,argTypes:=tys }) (he:∀ xs w,(callFunc f xs).run P w = .ok (.enter f xs) w) :
  (execOp (evalS s) o).run P w = .ok (.enter f (args.map (evalS s))) w:=by
 have e0:evalS s (.func f) = .func (.func f) #[] #[]:=rfl
 simp [execOp,ho,resolve,invoke,Deferred.ofValue,e0,he]
theorem opStep_fn {P:Program} {o:Oper} {s:Nat→Value} {w:World} {K:(Nat→Value)→World→Prop} (f:FuncId) (args:Array Operand) (tys:Array TypeId) (ho:o.op = .call { callee:=.value (.func f),args:=args,argTypes:=tys }) (he:∀ xs w,(callFunc f xs).run P w = .ok (.enter f xs) w) (vs:Array Value) (hv:args.map (evalS s)=vs)
  (hk:Calls P f vs w fun e w'' => ∃ v,e = .returned v∧K (updS s o.dst v) w''):OpStep P o s w K :=
 opStep_enter (by rw [run_callFn f args tys ho he,hv]) hk
theorem run_callVal {P:Program} {o:Oper} {s:Nat→Value} {w:World} (t:Nat) (f:FuncId) (caps:Array Value) (args:Array Operand) (tys:Array TypeId) (ho:o.op = .call { callee:=.value (.tmp t),args:=args,argTypes:=tys }) (ht:s t = .func (.func f) #[] caps) (he:∀ xs w,(callFunc f xs).run P w = .ok (.enter f xs) w) :
  (execOp (evalS s) o).run P w = .ok (.enter f (args.map (evalS s) ++ caps)) w:=by
 have e0:evalS s (.tmp t) = .func (.func f) #[] caps:=ht
 simp [execOp,ho,resolve,invoke,Deferred.ofValue,e0,he]
theorem opStep_val {P:Program} {o:Oper} {s:Nat→Value} {w:World} {K:(Nat→Value)→World→Prop} (t:Nat) (f:FuncId) (caps:Array Value) (args:Array Operand) (tys:Array TypeId) (ho:o.op = .call { callee:=.value (.tmp t),args:=args,argTypes:=tys }) (ht:s t = .func (.func f) #[] caps) (he:∀ xs w,(callFunc f xs).run P w = .ok (.enter f xs) w) (vs:Array Value) (hv:args.map (evalS s)=vs)
  (hk:Calls P f (vs ++ caps) w fun e w'' => ∃ v,e = .returned v∧K (updS s o.dst v) w''):OpStep P o s w K :=
 opStep_enter (by rw [run_callVal t f caps args tys ho ht he,hv]) hk
end Go.Proofs.YtjjggefmmeminacGreat
namespace Go.Proofs.YtjjggefmmeminacGreat
open Go.RowKit Go.Sort
structure PSeen where
 name:ByteArray
 nf:Nat
 F:Nat→LField
 own:ByteArray
 O:Nat→ByteArray
def fieldCell (F:Nat→LField) (j:Nat):Value:=if j % 3=0 then .string (F (j / 3)).name else if j % 3=1 then .int .i64 (F (j / 3)).kind else .string (F (j / 3)).type
def seenCell (S:Nat→PSeen) (fv ov:Nat→Value) (j:Nat):Value:=if j % 4=0 then .string (S (j / 4)).name else if j % 4=1 then fv (j / 4) else if j % 4=2 then .string (S (j / 4)).own else ov (j / 4)
theorem fieldCell0 (F:Nat→LField) (i:Nat):fieldCell F (i * 3) = .string (F i).name:=by unfold fieldCell; rw [if_pos (by omega),show i * 3 / 3=i by omega]
theorem fieldCell1 (F:Nat→LField) (i:Nat):fieldCell F (i * 3 + 1) = .int .i64 (F i).kind:=by unfold fieldCell; rw [if_neg (by omega),if_pos (by omega),show (i * 3 + 1) / 3=i by omega]
theorem fieldCell2 (F:Nat→LField) (i:Nat):fieldCell F (i * 3 + 2) = .string (F i).type:=by unfold fieldCell; rw [if_neg (by omega),if_neg (by omega),show (i * 3 + 2) / 3=i by omega]
theorem seenCell0 (S:Nat→PSeen) (fv ov:Nat→Value) (i:Nat):seenCell S fv ov (i * 4) = .string (S i).name:=by unfold seenCell; rw [if_pos (by omega),show i * 4 / 4=i by omega]
theorem seenCell1 (S:Nat→PSeen) (fv ov:Nat→Value) (i:Nat):seenCell S fv ov (i * 4 + 1)=fv i:=by unfold seenCell; rw [if_neg (by omega),if_pos (by omega),show (i * 4 + 1) / 4=i by omega]
theorem seenCell2 (S:Nat→PSeen) (fv ov:Nat→Value) (i:Nat):seenCell S fv ov (i * 4 + 2) = .string (S i).own:=by unfold seenCell; rw [if_neg (by omega),if_neg (by omega),if_pos (by omega),show (i * 4 + 2) / 4=i by omega]
theorem seenCell3 (S:Nat→PSeen) (fv ov:Nat→Value) (i:Nat):seenCell S fv ov (i * 4 + 3)=ov i:=by unfold seenCell; rw [if_neg (by omega),if_neg (by omega),if_neg (by omega),show (i * 4 + 3) / 4=i by omega]
def GoodF (f:LField):Prop:=Small f.name∧Small f.type∧(Lit.int .i64 f.kind).wf=true
def GoodS (s:PSeen):Prop:=Small s.name∧Small s.own∧s.nf≤maxLen∧(∀ j,j < s.nf→GoodF (s.F j))∧∀ j,j < s.nf→Small (s.O j)
structure Seens (w:World) (base:Nat) (v:Value) (n:Nat) (fv ov:Nat→Value) (S:Nat→PSeen):Prop where
 nmax:n≤maxLen
 row:Row w base 147 4 v n (seenCell S fv ov)
 fields:∀ i,i < n→Row w base 66 3 (fv i) (S i).nf (fieldCell (S i).F)
 owns:∀ i,i < n→Row w base 9 1 (ov i) (S i).nf (textCell (S i).O)
 fapart:∀ i j,i < n→j < n→i≠j→∀ k,(fv i).ownBlock=some k→(fv j).ownBlock≠some k
 oapart:∀ i j,i < n→j < n→i≠j→∀ k,(ov i).ownBlock=some k→(ov j).ownBlock≠some k
 good:∀ i,i < n→GoodS (S i)
theorem Seens.kept {w w':World} {base n:Nat} {v:Value} {fv ov:Nat→Value} {S:Nat→PSeen} (h:Seens w base v n fv ov S) (hB:Below w.heap.size w w'):Seens w' base v n fv ov S :=
 ⟨h.nmax,h.row.kept hB,fun i hi=>(h.fields i hi).kept hB,fun i hi=>(h.owns i hi).kept hB,h.fapart,h.oapart,h.good⟩
theorem Row.fieldsAt {w:World} {base e nf:Nat} {v:Value} {F:Nat→LField} (h:Row w base e 3 v nf (fieldCell F)) (hn:nf≤maxLen) (hg:∀ j,j < nf→GoodF (F j)):∃ a cap,v = .slice a nf cap∧nf≤cap∧FieldsAt w a nf F:=by
 rcases h.shape with ⟨rfl,rfl⟩ | ⟨g,cap,rfl,-,hc,-⟩
 ·exact ⟨none,0,rfl,Nat.le_refl _,Nat.zero_le _,fun i hi=>absurd hi (Nat.not_lt_zero _)⟩
 ·refine ⟨_,cap,rfl,hc,hn,fun i hi=>⟨g,0,rfl,?_,?_,?_,hg i hi⟩⟩
  ·rw [h.cell (by omega),Nat.zero_add,fieldCell0]
  ·rw [h.cell (by omega),Nat.zero_add,fieldCell1]
  ·rw [h.cell (by omega),Nat.zero_add,fieldCell2]
theorem Seens.cells {w:World} {base n g cap:Nat} {fv ov:Nat→Value} {S:Nat→PSeen} (h:Seens w base (.slice (some ⟨g,0,none⟩) n cap) n fv ov S) {i:Nat} (hi:i < n) :
  w.cell? ⟨g,i * 4,none⟩=some (.string (S i).name)∧w.cell? ⟨g,i * 4 + 1,none⟩=some (fv i)∧w.cell? ⟨g,i * 4 + 2,none⟩=some (.string (S i).own)∧w.cell? ⟨g,i * 4 + 3,none⟩=some (ov i):=by
 refine ⟨?_,?_,?_,?_⟩
 ·rw [h.row.cell (by omega),seenCell0]
 ·rw [h.row.cell (by omega),seenCell1]
 ·rw [h.row.cell (by omega),seenCell2]
 ·rw [h.row.cell (by omega),seenCell3]
theorem Seens.ptr {w:World} {base n:Nat} {v:Value} {fv ov:Nat→Value} {S:Nat→PSeen} (h:Seens w base v n fv ov S) {i:Nat} (hi:i < n):∃ g cap,v = .slice (some ⟨g,0,none⟩) n cap∧base≤g∧n≤cap:=by
 rcases h.row.shape with ⟨-,rfl⟩ | ⟨g,cap,hv,hb,hc,-⟩
 ·omega
 ·exact ⟨g,cap,hv,hb,hc⟩
theorem Seens.slice {w:World} {base n:Nat} {v:Value} {fv ov:Nat→Value} {S:Nat→PSeen} (h:Seens w base v n fv ov S):∃ a cap,v = .slice a n cap∧n≤cap:=by
 rcases h.row.shape with ⟨rfl,rfl⟩ | ⟨g,cap,hv,hb,hc,-⟩
 ·exact ⟨_,_,rfl,Nat.le_refl _⟩
 ·exact ⟨_,_,hv,hc⟩
theorem Seens.setName {w:World} {base n g cap:Nat} {fv ov:Nat→Value} {S:Nat→PSeen} (h:Seens w base (.slice (some ⟨g,0,none⟩) n cap) n fv ov S) {t : Nat} {to:ByteArray} (hs:Small to) :
  Seens (w.setCell ⟨g,t * 4,none⟩ (.string to)) base (.slice (some ⟨g,0,none⟩) n cap) n fv ov (fun i => { S i with name:=if i=t then to else (S i).name }):=by
 have n1:∀ i,i < n→(fv i).ownBlock≠some g:=fun i hi=>h.row.ne (h.fields i hi) (by decide) (k:=g) rfl
 have n2:∀ i,i < n→(ov i).ownBlock≠some g:=fun i hi=>h.row.ne (h.owns i hi) (by decide) (k:=g) rfl
 refine ⟨h.nmax,(h.row.set (t * 4) (.string to)).congr ?_,fun i hi=>(h.fields i hi).set_other (p:=⟨g,t * 4,none⟩) (n1 i hi) _,fun i hi=>(h.owns i hi).set_other (p:=⟨g,t * 4,none⟩) (n2 i hi) _,h.fapart,h.oapart,fun i hi=>?_⟩
 ·intro j hj
  by_cases hjt:j=t * 4
  ·subst hjt
   rw [if_pos rfl,seenCell0]; simp
  ·rw [if_neg hjt]
   unfold seenCell
   by_cases h0:j % 4=0
   ·rw [if_pos h0,if_pos h0]; simp [show ¬ j / 4=t by omega]
   ·rw [if_neg h0,if_neg h0]
 ·obtain ⟨q1,q2⟩:=h.good i hi
  refine ⟨?_,q2⟩
  by_cases hit:i=t
  ·simp [hit]; exact hs
  ·simp [hit]; exact q1
theorem Seens.setField {w:World} {base n:Nat} {v:Value} {fv ov:Nat→Value} {S:Nat→PSeen} (h:Seens w base v n fv ov S) {t : Nat} (ht:t < n) {fb cap:Nat} (hfv:fv t = .slice (some ⟨fb,0,none⟩) (S t).nf cap) (u:Value) (p:Nat) (G:Nat→LField)
  (hG:∀ q,q < (S t).nf * 3→(if q=p then u else fieldCell (S t).F q)=fieldCell G q) (hg:∀ j,j < (S t).nf→GoodF (G j)) :
  Seens (w.setCell ⟨fb,p,none⟩ u) base v n fv ov (fun i => { S i with F:=if i=t then G else (S i).F }):=by
 have hft:=h.fields t ht
 have hbt:(fv t).ownBlock=some fb:=by rw [hfv]; rfl
 have n1:v.ownBlock≠some fb:=hft.ne h.row (by decide) hbt
 have n2:∀ i,i < n→(ov i).ownBlock≠some fb:=fun i hi=>hft.ne (h.owns i hi) (by decide) hbt
 refine ⟨h.nmax,(h.row.set_other (p:=⟨fb,p,none⟩) n1 _).congr ?_,fun i hi=>?_,fun i hi=>(h.owns i hi).set_other (p:=⟨fb,p,none⟩) (n2 i hi) _,h.fapart,h.oapart,fun i hi=>?_⟩
 ·intro j hj; rfl
 ·by_cases hit:i=t
  ·subst hit
   rw [hfv] at hft ⊢
   refine (hft.set p u).congr ?_
   intro q hq
   simp only [if_pos]
   exact hG q hq
  ·simp only [hit,if_false]
   exact (h.fields i hi).set_other (p:=⟨fb,p,none⟩) (h.fapart t i ht hi (Ne.symm hit) fb hbt) _
 ·obtain ⟨q1,q2,q3,q4,q5⟩:=h.good i hi
  refine ⟨q1,q2,q3,?_,q5⟩
  by_cases hit:i=t
  ·subst hit; simpa using hg
  ·simpa [hit] using q4
end Go.Proofs.YtjjggefmmeminacGreat
namespace Go.Proofs.YtjjggefmmeminacGreat
open Go.RowKit
def Pred (K:Nat) (caps:Array Value) (w:World) (n:Nat) (p:Nat→Bool):Prop :=
 ∀ i:Nat,i < n→∀ w1:World,Below w.heap.size w w1→Calls Tryz.prog K (#[.int .i64 (i:Int)] ++ caps) w1 fun e w'=>e = .returned (.bool (p i))∧Below w1.heap.size w1 w'
set_option maxHeartbeats 400000 in
theorem index_any (n:Nat) (hn:n≤9223372036854775807) (K:Nat) (caps:Array Value) (p:Nat→Bool) (w:World) (eK:∀ args w,(callFunc K args).run Tryz.prog w = .ok (.enter K args) w) (hp:Pred K caps w n p) :
  Calls Tryz.prog 32 #[.int .i64 (n:Int),.func (.func K) #[] caps] w fun e w'=>e = .returned (.int .i64 (idx n p))∧Below w.heap.size w w':=by
 have HP:Hid (Pred K caps w n p):=hp
 clear hp
 go_enter Tryz.func32,Tryz.ntmps32
 go_wp2
 go_loopw [7] (fun i wr => ∃ k:Nat,k≤n∧i = .int .i64 k∧Hid (∀ j,j < k→p j=false)∧Below w.heap.size w wr) (fun i _=>n - (intOf i).toNat)
 case atStart=>exact ⟨0,Nat.zero_le _,rfl,(fun j hj=>absurd hj (Nat.not_lt_zero _)),Below.refl _ _⟩
 case round =>
  obtain ⟨k,hk,rfl,hb,hw⟩:=hrel
  by_cases hlt:k < n
  ·go_wp2_with fail
   refine (HP.out k hlt wr hw).mono ?_
   rintro e w1 ⟨rfl,hw1⟩
   have hw2:Below w.heap.size w w1:=hw.trans (hw1.mono hw.size)
   clear hw1
   cases hpk:p k with
   | true =>
    have hfin:Hid (idx n p=(k:Int)):=idx_hit hlt hpk hb
    clear hpk
    go_wp2
    go_ret
    exact ⟨by rw [hfin.out]; rfl,hw2⟩
   | false =>
    have hb2:Hid (∀ j,j < k + 1→p j=false):=fun j hj=>by
     rcases Nat.lt_succ_iff_lt_or_eq.1 hj with h | h
     ·exact hb j h
     ·rw [h]; exact hpk
    clear hpk
    go_wp2
    go_roundw
    case rel=>exact ⟨k + 1,by omega,by go_num,hb2,hw2⟩
    case measure=>simp [intOf]; omega
  ·have hfin:Hid (idx n p = -1):=idx_none (fun j hj=>hb j (by omega))
   go_wp2
   go_ret
   exact ⟨by rw [hfin.out]; rfl,hw⟩
end Go.Proofs.YtjjggefmmeminacGreat
namespace Go.Proofs.YtjjggefmmeminacGreat
open Go.RowKit Go.Sort Go.PlainAid
theorem Tryz.e33:∀ args w,(callFunc 33 args).run Tryz.prog w = .ok (.enter 33 args) w:=enters_of Tryz.func33 (by kernel_rfl) rfl
def letterB (c:Int):Bool:=decide (97≤c) && decide (c≤122)
def digitB (c:Int):Bool:=decide (48≤c) && decide (c≤57)
def oddB (s:ByteArray) (i:Nat):Bool := !letterB (bt s i) && !digitB (bt s i)
def named (s:ByteArray):Bool := !(decide (s.size=0) || decide (12 < s.size) || !letterB (bt s 0)) && decide (idx s.size (oddB s) < 0)
set_option maxHeartbeats 400000 in
theorem letter_any (c:Int) (w:World):Calls Tryz.prog 31 #[.int .u8 c] w fun e w'=>e = .returned (.bool (letterB c))∧w'=w:=by
 unfold letterB
 by_cases h1:97≤c <;> by_cases h2:c≤122
 all_goals
  go_enter Tryz.func31,Tryz.ntmps31
  go_wp2
  go_ret
  exact ⟨by simp [h1,h2],rfl⟩
set_option maxHeartbeats 400000 in
theorem digit_any (c:Int) (w:World):Calls Tryz.prog 34 #[.int .u8 c] w fun e w'=>e = .returned (.bool (digitB c))∧w'=w:=by
 unfold digitB
 by_cases h1:48≤c <;> by_cases h2:c≤57
 all_goals
  go_enter Tryz.func34,Tryz.ntmps34
  go_wp2
  go_ret
  exact ⟨by simp [h1,h2],rfl⟩
set_option maxHeartbeats 400000 in
theorem named1_any (s:ByteArray) (i b:Nat) (w:World) (hi:i < s.size) (hc:w.cell? ⟨b,0,none⟩=some (.string s)) :
  Calls Tryz.prog 33 #[.int .i64 (i:Int),.pointer (some ⟨b,0,none⟩)] w fun e w'=>e = .returned (.bool (oddB s i))∧Below w.heap.size w w':=by
 have hi':(i:Int) < (s.size:Int):=by omega
 have hi0:(0:Int)≤(i:Int):=by omega
 have hg:=get_bt s
 unfold oddB
 cases h1:letterB (bt s i)
 ·go_enter Tryz.func33,Tryz.ntmps33
  go_wp2_with (first
   | (go_at_call 31; refine (letter_any _ _).mono ?_; rintro e w' ⟨rfl,rfl⟩)
   | (go_at_call 34; refine (digit_any _ _).mono ?_; rintro e w' ⟨rfl,rfl⟩))
  go_ret
  exact ⟨rfl,Below.refl _ _⟩
 ·go_enter Tryz.func33,Tryz.ntmps33
  go_wp2_with (first
   | (go_at_call 31; refine (letter_any _ _).mono ?_; rintro e w' ⟨rfl,rfl⟩)
   | (go_at_call 34; refine (digit_any _ _).mono ?_; rintro e w' ⟨rfl,rfl⟩))
  go_ret
  exact ⟨rfl,Below.refl _ _⟩
set_option maxHeartbeats 400000 in
theorem named_any (s:ByteArray) (w:World) (hs:Small s) :
  Calls Tryz.prog 19 #[.string s] w fun e w'=>e = .returned (.bool (named s))∧Below w.heap.size w w':=by
 have hmf:∀ (fn:Fn) (first cap:Array Value) (w:World),(Instr.makeFunc fn first cap).run Tryz.prog w = .ok (.func fn first cap) w:=fun _ _ _ _=>rfl
 unfold Small maxLen at hs
 by_cases h0:s.toList = []
 ·have hfin:Hid (named s=false):=by unfold named Hid; simp [toList_nil.1 h0]
  go_enter Tryz.func19,Tryz.ntmps19
  go_wp2_with fail
  go_ret
  exact ⟨by rw [hfin.out]; rfl,below1 _ _⟩
 have h0b:s.toList.isEmpty=false:=by simpa using h0
 have hp:0 < s.size:=by have:=mt toList_nil.2 h0; omega
 by_cases h1:12 < (s.size:Int)
 ·have hfin:Hid (named s=false):=by unfold named Hid; simp [show 12 < s.size by omega]
  go_enter Tryz.func19,Tryz.ntmps19
  go_wp2_with fail
  go_ret
  exact ⟨by rw [hfin.out]; rfl,below1 _ _⟩
 have hg:=get_bt s
 cases h2:letterB (bt s 0)
 ·have hfin:Hid (named s=false):=by unfold named Hid; simp [h2]
  go_enter Tryz.func19,Tryz.ntmps19
  go_wp2_with fail
  refine (letter_any _ _).mono ?_
  rintro e w' ⟨rfl,rfl⟩
  go_wp2_with fail
  go_ret
  exact ⟨by rw [hfin.out]; rfl,below1 _ _⟩
 ·have hfin:Hid (named s=decide (idx s.size (oddB s) < 0)):=by unfold named Hid; simp [h2,show ¬ 12 < s.size by omega,show ¬ s.size=0 by omega]
  go_enter Tryz.func19,Tryz.ntmps19
  go_wp2_with fail
  refine (letter_any _ _).mono ?_
  rintro e w' ⟨rfl,rfl⟩
  go_wp2_with fail
  refine (index_any s.size hs 33 _ (oddB s) _ Tryz.e33 ?_).mono ?_
  ·intro i hi w1 hw1
   refine named1_any s i _ w1 hi (keptCell hw1 ?_)
   rw [World.cell?_alloc_at _ _ _ _ rfl]; rfl
  ·rintro e w1 ⟨rfl,hw1⟩
   go_wp2_with fail
   go_ret
   exact ⟨by rw [hfin.out]; rfl,(below1 w _).trans (hw1.mono (below1 w _).size)⟩
end Go.Proofs.YtjjggefmmeminacGreat
namespace Go.Proofs.YtjjggefmmeminacGreat
open Go.RowKit Go.Sort
def pfind (n:Nat) (S:Nat→PSeen) (name:ByteArray):Int:=idx n (fun i=>eqs (S i).name name)
theorem Tryz.e134:∀ args w,(callFunc 134 args).run Tryz.prog w = .ok (.enter 134 args) w:=enters_of Tryz.func134 (by kernel_rfl) rfl
set_option maxRecDepth 100000 in
set_option maxHeartbeats 400000 in
theorem cfind1_any (bn n1 c1 n2 c2:Nat) (a1 a2:Option Addr) (name s o:ByteArray) (w:World) (hm:w.cell? ⟨bn,0,none⟩=some (.string name)) :
  Calls Tryz.prog 134 #[.agg #[.string s,.slice a1 n1 c1,.string o,.slice a2 n2 c2],.pointer (some ⟨bn,0,none⟩)] w fun e w'=>e = .returned (.bool (eqs s name))∧Below w.heap.size w w':=by
 have hbn:bn < w.heap.size:=block_lt_of_cell hm
 go_enter Tryz.func134,Tryz.ntmps134
 go_wp2
 go_ret
 exact ⟨by rw [← eqs_eq]; rfl,below1 _ _⟩
set_option maxRecDepth 100000 in
set_option maxHeartbeats 800000 in
theorem cindex_any (base n bn:Nat) (v:Value) (fv ov:Nat→Value) (S:Nat→PSeen) (name:ByteArray) (w:World) (hS:Seens w base v n fv ov S) (hm:w.cell? ⟨bn,0,none⟩=some (.string name)) :
  Calls Tryz.prog 133 #[v,.func (.func 134) #[] #[.pointer (some ⟨bn,0,none⟩)]] w fun e w'=>e = .returned (.int .i64 (pfind n S name))∧Below w.heap.size w w':=by
 have hn:n≤9223372036854775807:=hS.nmax
 obtain ⟨a,cap,rfl,hcap⟩:=hS.slice
 have HS:Hid (Seens w base (.slice a n cap) n fv ov S):=hS
 have eK:=Tryz.e134
 clear hS
 go_enter Tryz.func133,Tryz.ntmps133
 go_wp2_with fail
 go_loopw [8] (fun i wr => ∃ k:Nat,k≤n∧i = .int .i64 k∧Hid (∀ j,j < k→eqs (S j).name name=false)∧Below w.heap.size w wr) (fun i _=>n - (intOf i).toNat)
 case atStart=>exact ⟨0,Nat.zero_le _,rfl,(fun j hj=>absurd hj (Nat.not_lt_zero _)),Below.refl _ _⟩
 case round =>
  obtain ⟨k,hk,rfl,hb,hw⟩:=hrel
  by_cases hlt:k < n
  ·have hSr:=HS.out.kept hw
   obtain ⟨g,cap',hv,-,-⟩:=hSr.ptr hlt
   cases hv
   obtain ⟨k0,k1,k2,k3⟩:=hSr.cells hlt
   obtain ⟨a1,c1,e1,-⟩:=(hSr.fields k hlt).slice
   obtain ⟨a2,c2,e2,-⟩:=(hSr.owns k hlt).slice
   rw [e1] at k1
   rw [e2] at k3
   clear hSr e1 e2
   have hlt':(k:Int) < (n:Int):=by omega
   have hk0:(0:Int)≤(k:Int):=by omega
   have hcl:=cfind1_any bn (S k).nf c1 (S k).nf c2 a1 a2 name (S k).name (S k).own wr (keptCell hw hm)
   go_wp2_with fail
   refine hcl.mono ?_
   clear hcl
   rintro e w1 ⟨rfl,hw1⟩
   have hw2:Below w.heap.size w w1:=hw.trans (hw1.mono hw.size)
   clear hw1 k0 k1 k2 k3
   cases hpk:eqs (S k).name name with
   | true =>
    have hfin:Hid (pfind n S name=(k:Int)):=idx_hit hlt hpk hb
    clear hpk
    go_wp2_with fail
    go_ret
    exact ⟨by rw [hfin.out]; rfl,hw2⟩
   | false =>
    have hb2:Hid (∀ j,j < k + 1→eqs (S j).name name=false):=fun j hj=>by
     rcases Nat.lt_succ_iff_lt_or_eq.1 hj with h | h
     ·exact hb j h
     ·rw [h]; exact hpk
    clear hpk
    go_wp2_with fail
    go_roundw
    case rel=>exact ⟨k + 1,by omega,by go_num,hb2,hw2⟩
    case measure=>simp [intOf]; omega
  ·have hfin:Hid (pfind n S name = -1):=idx_none (fun j hj=>hb j (by omega))
   go_wp2_with fail
   go_ret
   exact ⟨by rw [hfin.out]; rfl,hw⟩
set_option maxRecDepth 100000 in
set_option maxHeartbeats 400000 in
theorem cfind_any (base n:Nat) (v:Value) (fv ov:Nat→Value) (S:Nat→PSeen) (name:ByteArray) (w:World) (hS:Seens w base v n fv ov S) :
  Calls Tryz.prog 114 #[v,.string name] w fun e w'=>e = .returned (.int .i64 (pfind n S name))∧Below w.heap.size w w':=by
 have hmf:∀ (fn:Fn) (first cap:Array Value) (w:World),(Instr.makeFunc fn first cap).run Tryz.prog w = .ok (.func fn first cap) w:=fun _ _ _ _=>rfl
 have HS:Hid (Seens w base v n fv ov S):=hS
 obtain ⟨a,cap,rfl,hcap⟩:=hS.slice
 clear hS
 go_enter Tryz.func114,Tryz.ntmps114
 go_wp2_with fail
 have hB:=below1 w (Obj.cells #[Value.string name] 9)
 refine (cindex_any base n w.heap.size _ fv ov S name _ (HS.out.kept hB) ?_).mono ?_
 ·rw [World.cell?_alloc_at _ _ _ _ rfl]; rfl
 ·rintro e w1 ⟨rfl,hw1⟩
  have hB1:=hB.trans (hw1.mono hB.size)
  clear hw1 hB
  go_wp2_with fail
  go_ret
  exact ⟨rfl,hB1⟩
end Go.Proofs.YtjjggefmmeminacGreat
namespace Go.Proofs.YtjjggefmmeminacGreat
open Go.RowKit Go.Sort
theorem Seens.congr {w:World} {base n:Nat} {v:Value} {fv ov:Nat→Value} {S S':Nat→PSeen} (h:Seens w base v n fv ov S)
  (e:∀ i,i < n→(S' i).name=(S i).name∧(S' i).own=(S i).own∧(S' i).nf=(S i).nf∧(∀ j,j < (S i).nf→(S' i).F j=(S i).F j)∧∀ j,j < (S i).nf→(S' i).O j=(S i).O j):Seens w base v n fv ov S':=by
 refine ⟨h.nmax,h.row.congr fun j hj=>?_,fun i hi=>?_,fun i hi=>?_,h.fapart,h.oapart,fun i hi=>?_⟩
 ·obtain ⟨e1,e2,-⟩:=e (j / 4) (by omega)
  unfold seenCell; rw [e1,e2]
 ·obtain ⟨-,-,e3,e4,-⟩:=e i hi
  rw [e3]
  exact (h.fields i hi).congr fun j hj=>by unfold fieldCell; rw [e4 (j / 3) (by omega)]
 ·obtain ⟨-,-,e3,-,e5⟩:=e i hi
  rw [e3]
  exact (h.owns i hi).congr fun j hj=>by unfold textCell; rw [e5 j (by omega)]
 ·obtain ⟨e1,e2,e3,e4,e5⟩:=e i hi
  obtain ⟨q1,q2,q3,q4,q5⟩:=h.good i hi
  refine ⟨by rw [e1]; exact q1,by rw [e2]; exact q2,by rw [e3]; exact q3,fun j hj=>?_,fun j hj=>?_⟩
  ·rw [e3] at hj; rw [e4 j hj]; exact q4 j hj
  ·rw [e3] at hj; rw [e5 j hj]; exact q5 j hj
def retype (frm to:ByteArray) (f:LField):LField:=if eqs f.type frm then { f with type:=to } else f
def part (S:Nat→PSeen) (frm to:ByteArray) (k m:Nat):Nat→PSeen:=fun i => { S i with F:=fun j=>if i < k∨(i=k∧j < m) then retype frm to ((S i).F j) else (S i).F j }
theorem part_next {w:World} {base n:Nat} {v:Value} {fv ov:Nat→Value} {S:Nat→PSeen} {frm to:ByteArray} {k:Nat} (h:Seens w base v n fv ov (part S frm to k (S k).nf)):Seens w base v n fv ov (part S frm to (k + 1) 0):=by
 refine h.congr fun i hi=>⟨rfl,rfl,rfl,fun j hj=>?_,fun j hj=>rfl⟩
 show (if i < k + 1∨(i=k + 1∧j < 0) then _ else _)=(if i < k∨(i=k∧j < (S k).nf) then _ else _)
 have hj':j < (S i).nf:=hj
 by_cases hik:i=k
 ·subst hik
  rw [if_pos (by omega),if_pos (by omega)]
 ·by_cases hlt:i < k
  ·rw [if_pos (by omega),if_pos (by omega)]
  ·rw [if_neg (by omega),if_neg (by omega)]
theorem part_at {S:Nat→PSeen} {frm to:ByteArray} {k m:Nat} : (part S frm to k m k).F m=(S k).F m:=by
 show (if k < k∨(k=k∧m < m) then _ else _)=_
 rw [if_neg (by omega)]
theorem part_skip {w:World} {base n:Nat} {v:Value} {fv ov:Nat→Value} {S:Nat→PSeen} {frm to:ByteArray} {k m:Nat} (h:Seens w base v n fv ov (part S frm to k m)) (he:eqs ((S k).F m).type frm=false):Seens w base v n fv ov (part S frm to k (m + 1)):=by
 refine h.congr fun i hi=>⟨rfl,rfl,rfl,fun j hj=>?_,fun j hj=>rfl⟩
 show (if i < k∨(i=k∧j < m + 1) then _ else _)=(if i < k∨(i=k∧j < m) then _ else _)
 by_cases hc:i=k∧j=m
 ·obtain ⟨rfl,rfl⟩:=hc
  rw [if_pos (by omega),if_neg (by omega)]
  unfold retype; rw [he]; rfl
 ·by_cases hd:i < k∨(i=k∧j < m)
  ·rw [if_pos (by omega),if_pos hd]
  ·rw [if_neg (by omega),if_neg hd]
theorem part_set {w:World} {base n:Nat} {v:Value} {fv ov:Nat→Value} {S:Nat→PSeen} {frm to:ByteArray} {k m fb cap:Nat} (h:Seens w base v n fv ov (part S frm to k m)) (hk:k < n) (hm:m < (S k).nf) (hs:Small to)
  (hfv:fv k = .slice (some ⟨fb,0,none⟩) (S k).nf cap) (he:eqs ((S k).F m).type frm=true):Seens (w.setCell ⟨fb,m * 3 + 2,none⟩ (.string to)) base v n fv ov (part S frm to k (m + 1)):=by
 refine (h.setField hk hfv (.string to) (m * 3 + 2) (part S frm to k (m + 1) k).F ?_ ?_).congr ?_
 ·intro q hq
  by_cases hqm:q=m * 3 + 2
  ·subst hqm
   rw [if_pos rfl,fieldCell2]
   show _=Value.string (if k < k∨(k=k∧m < m + 1) then retype frm to ((S k).F m) else _).type
   rw [if_pos (by omega)]
   unfold retype; rw [he]; rfl
  ·rw [if_neg hqm]
   have hF:∀ j,j≠m→(part S frm to k m k).F j=(part S frm to k (m + 1) k).F j:=fun j hj=>by
    show (if k < k∨(k=k∧j < m) then _ else _)=(if k < k∨(k=k∧j < m + 1) then _ else _)
    by_cases hd:j < m
    ·rw [if_pos (by omega),if_pos (by omega)]
    ·rw [if_neg (by omega),if_neg (by omega)]
   by_cases hd:q / 3=m
   ·have h1:(part S frm to k m k).F m=(S k).F m:=part_at
    have h2:(part S frm to k (m + 1) k).F m=retype frm to ((S k).F m):=by
     show (if k < k∨(k=k∧m < m + 1) then _ else _)=_
     rw [if_pos (by omega)]
    unfold fieldCell
    rw [hd,h1,h2]
    unfold retype; rw [he]
    by_cases h0:q % 3=0
    ·rw [if_pos h0,if_pos h0]; rfl
    ·rw [if_neg h0,if_neg h0,if_pos (by omega),if_pos (by omega)]; rfl
   ·unfold fieldCell; rw [hF _ hd]
 ·intro j hj
  have hg:=(h.good k hk).2.2.2.1 j hj
  show GoodF (if k < k∨(k=k∧j < m + 1) then _ else _)
  by_cases hd:j=m
  ·subst hd
   rw [part_at] at hg
   rw [if_pos (by omega)]
   unfold retype; rw [he]
   exact ⟨hg.1,hs,hg.2.2⟩
  ·have:(part S frm to k m k).F j=if k < k∨(k=k∧j < m + 1) then retype frm to ((S k).F j) else (S k).F j:=by
    show (if k < k∨(k=k∧j < m) then _ else _)=_
    by_cases hd:j < m
    ·rw [if_pos (by omega),if_pos (by omega)]
    ·rw [if_neg (by omega),if_neg (by omega)]
   rw [← this]; exact hg
 ·intro i hi
  refine ⟨rfl,rfl,rfl,fun j hj=>?_,fun j hj=>rfl⟩
  by_cases hik:i=k
  ·subst hik
   show _=(if i=i then (part S frm to i (m + 1) i).F else _) j
   rw [if_pos rfl]
  ·show (part S frm to k (m + 1) i).F j=(if i=k then _ else (part S frm to k m i).F) j
   rw [if_neg hik]
   show (if i < k∨(i=k∧j < m + 1) then _ else _)=(if i < k∨(i=k∧j < m) then _ else _)
   by_cases hd:i < k
   ·rw [if_pos (by omega),if_pos (by omega)]
   ·rw [if_neg (by omega),if_neg (by omega)]
theorem part_zero {w:World} {base n:Nat} {v:Value} {fv ov:Nat→Value} {S:Nat→PSeen} {frm to:ByteArray} (h:Seens w base v n fv ov S):Seens w base v n fv ov (part S frm to 0 0):=by
 refine h.congr fun i hi=>⟨rfl,rfl,rfl,fun j hj=>?_,fun j hj=>rfl⟩
 show (if i < 0∨(i=0∧j < 0) then _ else _)=_
 rw [if_neg (by omega)]
theorem Tryz.e136:∀ args w,(callFunc 136 args).run Tryz.prog w = .ok (.enter 136 args) w:=enters_of Tryz.func136 (by kernel_rfl) rfl
set_option maxRecDepth 100000 in
set_option maxHeartbeats 400000 in
theorem callType1_hit (fb p bf bt:Nat) (ty frm to:ByteArray) (w:World) (hc:w.cell? ⟨fb,p + 2,none⟩=some (.string ty)) (hz:w.frozen? ⟨fb,p + 2,none⟩=false) (c1:w.cell? ⟨bf,0,none⟩=some (.string frm)) (c2:w.cell? ⟨bt,0,none⟩=some (.string to)) (he:eqs ty frm=true) :
  Calls Tryz.prog 136 #[.pointer (some ⟨fb,p,none⟩),.pointer (some ⟨bf,0,none⟩),.pointer (some ⟨bt,0,none⟩)] w fun e w'=>e = .returned (.tuple #[])∧∃ q,w'=(w.drewN q).setCell ⟨fb,p + 2,none⟩ (.string to):=by
 have he':(ty.toList == frm.toList)=true:=by rw [eqs_eq]; exact he
 clear he
 go_enter Tryz.func136,Tryz.ntmps136
 go_wp2_with fail
 go_quiet (fail)
 go_wp2_with fail
 go_end0
 exact ⟨rfl,_,rfl⟩
set_option maxRecDepth 100000 in
set_option maxHeartbeats 400000 in
theorem callType1_miss (fb p bf bt:Nat) (ty frm:ByteArray) (w:World) (hc:w.cell? ⟨fb,p + 2,none⟩=some (.string ty)) (c1:w.cell? ⟨bf,0,none⟩=some (.string frm)) (he:eqs ty frm=false) :
  Calls Tryz.prog 136 #[.pointer (some ⟨fb,p,none⟩),.pointer (some ⟨bf,0,none⟩),.pointer (some ⟨bt,0,none⟩)] w fun e w'=>e = .returned (.tuple #[])∧∃ q,w'=w.drewN q:=by
 have he':(ty.toList == frm.toList)=false:=by rw [eqs_eq]; exact he
 clear he
 go_enter Tryz.func136,Tryz.ntmps136
 go_wp2_with fail
 go_quiet (fail)
 go_wp2_with fail
 go_end0
 exact ⟨rfl,_,rfl⟩
end Go.Proofs.YtjjggefmmeminacGreat
namespace Go.Proofs.YtjjggefmmeminacGreat
open Go.RowKit Go.Sort
theorem Tryz.e93:∀ args w,(callFunc 93 args).run Tryz.prog w = .ok (.enter 93 args) w:=enters_of Tryz.func93 (by kernel_rfl) rfl
set_option maxHeartbeats 400000 in
theorem field1_any (b o cap n i bl bn:Nat) (name s:ByteArray) (w:World) (hi:i < n) (hl:w.cell? ⟨bl,0,none⟩=some (.slice (some ⟨b,o,none⟩) n cap)) (hm:w.cell? ⟨bn,0,none⟩=some (.string name))
  (hc:w.cell? ⟨b,o + i * 3,none⟩=some (.string s)) :
  Calls Tryz.prog 93 #[.int .i64 (i:Int),.pointer (some ⟨bl,0,none⟩),.pointer (some ⟨bn,0,none⟩)] w fun e w'=>e = .returned (.bool (eqs s name))∧Below w.heap.size w w':=by
 have hi':(i:Int) < (n:Int):=by omega
 have hi0:(0:Int)≤(i:Int):=by omega
 go_enter Tryz.func93,Tryz.ntmps93
 go_wp2
 go_quiet (fail)
 go_wp2
 go_ret
 exact ⟨by rw [← eqs_eq]; rfl,below_drewN _ _⟩
set_option maxHeartbeats 400000 in
theorem field_any (a:Option Addr) (n cap:Nat) (F:Nat→LField) (name:ByteArray) (w:World) (hF:FieldsAt w a n F) :
  Calls Tryz.prog 66 #[.slice a n cap,.string name] w fun e w'=>e = .returned (.int .i64 (fieldIdx n F name))∧Below w.heap.size w w':=by
 have hmf:∀ (fn:Fn) (first cap:Array Value) (w:World),(Instr.makeFunc fn first cap).run Tryz.prog w = .ok (.func fn first cap) w:=fun _ _ _ _=>rfl
 have HF:Hid (FieldsAt w a n F):=hF
 have hn:n≤9223372036854775807:=hF.1
 clear hF
 go_enter Tryz.func66,Tryz.ntmps66
 go_wp2_with fail
 refine (index_any n hn 93 _ (fun i=>eqs (F i).name name) _ Tryz.e93 ?_).mono ?_
 ·intro i hi w1 hw1
  obtain ⟨b,o,rfl,hc,-⟩:=HF.out.2 i hi
  refine field1_any b o cap n i _ _ name (F i).name w1 hi (keptCell hw1 ?_) (keptCell hw1 ?_) (keptCell ((below2 w _ _).trans (hw1.mono (below2 w _ _).size)) hc)
  ·rw [World.cell?_alloc_past _ _ _ (by simp),World.cell?_alloc_at _ _ _ _ rfl]; rfl
  ·rw [World.cell?_alloc_at _ _ _ _ (by simp)]; rfl
 ·rintro e w1 ⟨rfl,hw1⟩
  go_wp2
  go_ret
  exact ⟨rfl,(below2 w _ _).trans (hw1.mono (below2 w _ _).size)⟩
end Go.Proofs.YtjjggefmmeminacGreat
namespace Go.Proofs.YtjjggefmmeminacGreat
open Go.RowKit Go.Sort
theorem Tryz.e142:∀ args w,(callFunc 142 args).run Tryz.prog w = .ok (.enter 142 args) w:=enters_of Tryz.func142 (by kernel_rfl) rfl
set_option maxHeartbeats 400000 in
theorem find1_any (b o cap n i bl bn:Nat) (name s:ByteArray) (w:World) (hi:i < n) (hl:w.cell? ⟨bl,0,none⟩=some (.slice (some ⟨b,o,none⟩) n cap)) (hm:w.cell? ⟨bn,0,none⟩=some (.string name))
  (hc:w.cell? ⟨b,o + i * 2,none⟩=some (.string s)) :
  Calls Tryz.prog 142 #[.int .i64 (i:Int),.pointer (some ⟨bl,0,none⟩),.pointer (some ⟨bn,0,none⟩)] w fun e w'=>e = .returned (.bool (eqs s name))∧Below w.heap.size w w':=by
 have hi':(i:Int) < (n:Int):=by omega
 have hi0:(0:Int)≤(i:Int):=by omega
 go_enter Tryz.func142,Tryz.ntmps142
 go_wp2
 go_quiet (fail)
 go_wp2
 go_ret
 exact ⟨by rw [← eqs_eq]; rfl,below_drewN _ _⟩
set_option maxHeartbeats 400000 in
theorem find_any (a:Option Addr) (n cap:Nat) (T:Nat→LType) (name:ByteArray) (w:World) (hT:TypesAt w a n T) :
  Calls Tryz.prog 123 #[.slice a n cap,.string name] w fun e w'=>e = .returned (.int .i64 (find n T name))∧Below w.heap.size w w':=by
 have hmf:∀ (fn:Fn) (first cap:Array Value) (w:World),(Instr.makeFunc fn first cap).run Tryz.prog w = .ok (.func fn first cap) w:=fun _ _ _ _=>rfl
 have HT:Hid (TypesAt w a n T):=hT
 have hn:n≤9223372036854775807:=hT.1
 clear hT
 go_enter Tryz.func123,Tryz.ntmps123
 go_wp2_with fail
 refine (index_any n hn 142 _ (fun i=>eqs (T i).name name) _ Tryz.e142 ?_).mono ?_
 ·intro i hi w1 hw1
  obtain ⟨b,o,rfl,hc,-⟩:=HT.out.2 i hi
  refine find1_any b o cap n i _ _ name (T i).name w1 hi (keptCell hw1 ?_) (keptCell hw1 ?_) (keptCell ((below2 w _ _).trans (hw1.mono (below2 w _ _).size)) hc)
  ·rw [World.cell?_alloc_past _ _ _ (by simp),World.cell?_alloc_at _ _ _ _ rfl]; rfl
  ·rw [World.cell?_alloc_at _ _ _ _ (by simp)]; rfl
 ·rintro e w1 ⟨rfl,hw1⟩
  go_wp2
  go_ret
  exact ⟨rfl,(below2 w _ _).trans (hw1.mono (below2 w _ _).size)⟩
end Go.Proofs.YtjjggefmmeminacGreat
namespace Go.Proofs.YtjjggefmmeminacGreat
open Go.RowKit
def Gives (K:Nat) (caps:Array Value) (w:World) (n:Nat) (g:Nat→Int):Prop :=
 ∀ i:Nat,i < n→∀ w1:World,Below w.heap.size w w1→Calls Tryz.prog K (#[.int .i64 (i:Int)] ++ caps) w1 fun e w'=>e = .returned (.int .i64 (g i))∧Below w1.heap.size w1 w'
def faultV (f:Int × Int):Value:=.agg #[.int .i64 f.1,.int .i64 f.2]
set_option maxHeartbeats 400000 in
theorem firstFault_any (n:Nat) (hn:n≤9223372036854775807) (K:Nat) (caps:Array Value) (g:Nat→Int) (w:World) (eK:∀ args w,(callFunc K args).run Tryz.prog w = .ok (.enter K args) w) (hp:Gives K caps w n g) :
  Calls Tryz.prog 105 #[.int .i64 (n:Int),.func (.func K) #[] caps] w fun e w'=>e = .returned (faultV (fault n g))∧Below w.heap.size w w':=by
 have HP:Hid (Gives K caps w n g):=hp
 clear hp
 go_enter Tryz.func105,Tryz.ntmps105
 go_wp2
 go_loopw [8] (fun i wr => ∃ k:Nat,k≤n∧i = .int .i64 k∧Hid (∀ j,j < k→g j=0)∧Below w.heap.size w wr∧w.heap.size < wr.heap.size∧wr.cell? ⟨w.heap.size,0,none⟩=some (.int .i64 0)∧wr.cell? ⟨w.heap.size,1,none⟩=some (.int .i64 0)∧wr.frozen? ⟨w.heap.size,0,none⟩=false∧wr.frozen? ⟨w.heap.size,1,none⟩=false) (fun i _=>n - (intOf i).toNat)
 case atStart =>
  refine ⟨0,Nat.zero_le _,rfl,(fun j hj=>absurd hj (Nat.not_lt_zero _)),(Below.refl _ _).alloc (Nat.le_refl _) _,by simp,?_,?_,?_,?_⟩
  ·rw [World.cell?_alloc_at _ _ _ _ rfl]; rfl
  ·rw [World.cell?_alloc_at _ _ _ _ rfl]; rfl
  ·exact World.frozen?_alloc_at _ _ _ _ rfl
  ·exact World.frozen?_alloc_at _ _ _ _ rfl
 case round =>
  obtain ⟨k,hk,rfl,hb,hw,hz,c0,c1,f0,f1⟩:=hrel
  by_cases hlt:k < n
  ·go_wp2_with fail
   refine (HP.out k hlt wr hw).mono ?_
   rintro e w1 ⟨rfl,hw1⟩
   have hw2:Below w.heap.size w w1:=hw.trans (hw1.mono hw.size)
   have hz2:w.heap.size < w1.heap.size:=Nat.lt_of_lt_of_le hz hw1.size
   have d0:=(hw1.cell (p:=⟨w.heap.size,0,none⟩) hz).trans c0
   have d1:=(hw1.cell (p:=⟨w.heap.size,1,none⟩) hz).trans c1
   have g0:=(hw1.frozen (p:=⟨w.heap.size,0,none⟩) hz).trans f0
   have g1:=(hw1.frozen (p:=⟨w.heap.size,1,none⟩) hz).trans f1
   clear hw1 c0 c1 f0 f1
   by_cases hpk:g k=0
   ·have hb2:Hid (∀ j,j < k + 1→g j=0):=fun j hj=>by
     rcases Nat.lt_succ_iff_lt_or_eq.1 hj with h | h
     ·exact hb j h
     ·rw [h]; exact hpk
    have hpb:(g k != 0)=false:=by simpa using hpk
    clear hpk
    go_wp2
    go_roundw
    case rel=>exact ⟨k + 1,by omega,by go_num,hb2,hw2,hz2,d0,d1,g0,g1⟩
    case measure=>simp [intOf]; omega
   ·have hfin:Hid (fault n g=(g k,(k:Int))):=fault_hit hlt hpk hb
    have hpb:(g k != 0)=true:=by simpa using hpk
    clear hpk
    go_wp2
    refine bodyPost_ret (v:=.agg #[.int .i64 (g k),.int .i64 (k:Int)]) (by simp [results,Tryz.results105,go_sem,d0,d1]) rfl ⟨by rw [hfin.out]; rfl,?_⟩
    exact (hw2.setCell (Nat.le_refl _) _).setCell (Nat.le_refl _) _
  ·have hfin:Hid (fault n g=(0,0)):=fault_none (fun j hj=>hb j (by omega))
   go_wp2
   refine bodyPost_ret (v:=.agg #[.int .i64 0,.int .i64 0]) (by simp [results,Tryz.results105,go_sem,c0,c1]) rfl ⟨by rw [hfin.out]; rfl,?_⟩
   exact (hw.setCell (Nat.le_refl _) _).setCell (Nat.le_refl _) _
end Go.Proofs.YtjjggefmmeminacGreat
namespace Go.Proofs.YtjjggefmmeminacGreat
theorem fault_zero {n:Nat} {g:Nat→Int} : (fault n g).1=0 ↔ ∀ j,j < n→g j=0:=by
 rcases fault_cases n g with ⟨e,h⟩ | ⟨k,hk,e,h1,h2⟩
 ·rw [e]; exact ⟨fun _=>h,fun _=>rfl⟩
 ·rw [e]
  exact ⟨fun h=>absurd h h1,fun h=>h k hk⟩
theorem idx_neg {n:Nat} {p:Nat→Bool} : idx n p < 0 ↔ ∀ j,j < n→p j=false:=by
 rcases idx_cases n p with ⟨e,h⟩ | ⟨k,hk,e,h1,h2⟩
 ·rw [e]; exact ⟨fun _=>h,fun _=>by decide⟩
 ·rw [e]
  exact ⟨fun h=>by omega,fun h=>by rw [h k hk] at h1; cases h1⟩
end Go.Proofs.YtjjggefmmeminacGreat
namespace Go.Proofs.YtjjggefmmeminacGreat
open Go.RowKit Go.Sort
theorem Row.box_ne {w:World} {base e size n:Nat} {v:Value} {f : Nat→Value} (h:Row w base e size v n f) {k b t:Nat} {c:Array Value} (hk:v.ownBlock=some k) (hb:w.heap[b]? = some (.cells c t (0,0))) (he:e≠t):b≠k:=by
 rintro rfl
 obtain ⟨c',h1⟩:=h.obj hk
 rw [h1] at hb
 simp at hb
 exact he hb.2
structure Boxes (w:World) (bf bt:Nat) (frm to:ByteArray):Prop where
 f:w.heap[bf]? = some (.cells #[.string frm] 9 (0,0))
 t:w.heap[bt]? = some (.cells #[.string to] 9 (0,0))
theorem Boxes.kept {w w':World} {bf bt:Nat} {frm to:ByteArray} (h:Boxes w bf bt frm to) (hB:Below w.heap.size w w'):Boxes w' bf bt frm to :=
 ⟨(hB.block _ (lt_of_block h.f)).trans h.f,(hB.block _ (lt_of_block h.t)).trans h.t⟩
theorem each_hit {w0 w:World} {base n bf bt bs:Nat} {v:Value} {fv ov:Nat→Value} {S:Nat→PSeen} {frm to:ByteArray} {k m fb cap:Nat} {cs:Array Value} (h:Seens w base v n fv ov (part S frm to k m)) (hx:Boxes w bf bt frm to) (hb:Below base w0 w)
  (hs:w.heap[bs]? = some (.cells cs 147 (0,0))) (hk:k < n) (hm:m < (S k).nf) (hto:Small to)
  (hfv:fv k = .slice (some ⟨fb,0,none⟩) (S k).nf cap) (he:eqs ((S k).F m).type frm=true) (q:Nat) :
  Seens ((w.drewN q).setCell ⟨fb,m * 3 + 2,none⟩ (.string to)) base v n fv ov (part S frm to k (m + 1))∧Boxes ((w.drewN q).setCell ⟨fb,m * 3 + 2,none⟩ (.string to)) bf bt frm to∧Below base w0 ((w.drewN q).setCell ⟨fb,m * 3 + 2,none⟩ (.string to))∧((w.drewN q).setCell ⟨fb,m * 3 + 2,none⟩ (.string to)).heap[bs]? = some (.cells cs 147 (0,0)):=by
 have h':=h.kept (below_drewN w q)
 have hrow:=h'.fields k hk
 have hob:(fv k).ownBlock=some fb:=by rw [hfv]; rfl
 have hle:=(hrow.lt hob).1
 refine ⟨part_set h' hk hm hto hfv he,⟨?_,?_⟩,?_,?_⟩
 ·rw [Below.heap_setCell _ _ _ _ (hrow.box_ne hob (b:=bf) hx.f (by decide))]; exact hx.f
 ·rw [Below.heap_setCell _ _ _ _ (hrow.box_ne hob (b:=bt) hx.t (by decide))]; exact hx.t
 ·exact (hb.trans ((below_drewN w q).mono (by have:=(h.fields k hk).lt hob; omega))).setCell hle _
 ·rw [Below.heap_setCell _ _ _ _ (hrow.box_ne hob (b:=bs) hs (by decide))]; exact hs
theorem each_miss {w0 w:World} {base n bf bt bs:Nat} {v:Value} {fv ov:Nat→Value} {S:Nat→PSeen} {frm to:ByteArray} {k m:Nat} {cs:Array Value} (h:Seens w base v n fv ov (part S frm to k m)) (hx:Boxes w bf bt frm to) (hb:Below base w0 w)
  (hs:w.heap[bs]? = some (.cells cs 147 (0,0))) (he:eqs ((S k).F m).type frm=false) (q:Nat) :
  Seens (w.drewN q) base v n fv ov (part S frm to k (m + 1))∧Boxes (w.drewN q) bf bt frm to∧Below base w0 (w.drewN q)∧(w.drewN q).heap[bs]? = some (.cells cs 147 (0,0)) :=
 ⟨part_skip (h.kept (below_drewN w q)) he,hx.kept (below_drewN w q),⟨hb.os,hb.tape,hb.output,hb.size,hb.block⟩,hs⟩
set_option maxRecDepth 100000 in
set_option maxHeartbeats 1000000 in
theorem eachField_any (base n bf bt:Nat) (v:Value) (fv ov:Nat→Value) (S:Nat→PSeen) (frm to:ByteArray) (w:World) (hS:Seens w base v n fv ov S) (hx:Boxes w bf bt frm to) (hto:Small to) (hbase:base≤w.heap.size) :
  Calls Tryz.prog 135 #[v,.func (.func 136) #[] #[.pointer (some ⟨bf,0,none⟩),.pointer (some ⟨bt,0,none⟩)]] w fun e w'=>e = .returned (.tuple #[])∧Seens w' base v n fv ov (part S frm to n 0)∧Below base w w':=by
 have hn:n≤9223372036854775807:=hS.nmax
 obtain ⟨a,cap,rfl,hcap⟩:=hS.slice
 have HS:Hid (Seens w base (.slice a n cap) n fv ov S):=hS
 have HX:Hid (Boxes w bf bt frm to):=hx
 have eK:=Tryz.e136
 clear hS hx
 go_enter Tryz.func135,Tryz.ntmps135
 go_wp2_with fail
 go_loopw [9] (fun i wr => ∃ k:Nat,k≤n∧i = .int .i64 k∧Seens wr base (.slice a n cap) n fv ov (part S frm to k 0)∧Boxes wr bf bt frm to∧Below base w wr) (fun i _=>n - (intOf i).toNat)
 case atStart=>exact ⟨0,Nat.zero_le _,rfl,part_zero HS.out,HX.out,Below.refl _ _⟩
 case round =>
  obtain ⟨k,hk,rfl,hSr,hxr,hw⟩:=hrel
  by_cases hlt:k < n
  ·obtain ⟨g,cap',hv,-,-⟩:=hSr.ptr hlt
   cases hv
   obtain ⟨k0,k1,k2,k3⟩:=hSr.cells hlt
   obtain ⟨a1,c1,e1,-⟩:=(hSr.fields k hlt).slice
   obtain ⟨a2,c2,e2,-⟩:=(hSr.owns k hlt).slice
   have hnf:(S k).nf≤9223372036854775807:=(hSr.good k hlt).2.2.1
   have E1:Hid (fv k = .slice a1 (S k).nf c1):=e1
   have e1':fv k = .slice a1 (S k).nf c1:=e1
   have e2':ov k = .slice a2 (S k).nf c2:=e2
   rw [e1'] at k1
   rw [e2'] at k3
   have k0':wr.cell? ⟨g,k * 4,none⟩=some (.string (S k).name):=k0
   have k2':wr.cell? ⟨g,k * 4 + 2,none⟩=some (.string (S k).own):=k2
   clear k0 k2 e1 e2 e1' e2'
   have hlt':(k:Int) < (n:Int):=by omega
   have hk0:(0:Int)≤(k:Int):=by omega
   generalize hW:wr.alloc (Obj.cells #[.string (S k).name,.slice a1 (S k).nf c1,.string (S k).own,.slice a2 (S k).nf c2] 147)=W
   have hB:Below wr.heap.size wr W:=by rw [← hW]; exact below1 _ _
   have hs0:W.heap[wr.heap.size]? = some (.cells #[.string (S k).name,.slice a1 (S k).nf c1,.string (S k).own,.slice a2 (S k).nf c2] 147 (0,0)):=by rw [← hW]; exact heap_alloc_new _ _
   have HSW:Hid (Seens W base (.slice (some ⟨g,0,none⟩) n cap) n fv ov (part S frm to k 0)):=hSr.kept hB
   have HXW:Hid (Boxes W bf bt frm to):=hxr.kept hB
   have HBW:Hid (Below base w W):=hw.trans (hB.mono (by have:=hw.size; omega))
   have HS0:Hid (W.heap[wr.heap.size]? = some (.cells #[.string (S k).name,.slice a1 (S k).nf c1,.string (S k).own,.slice a2 (S k).nf c2] 147 (0,0))):=hs0
   have b1:W.cell? ⟨wr.heap.size,1,none⟩=some (.slice a1 (S k).nf c1):=by simp [World.cell?,hs0]
   clear hs0 hSr hxr hw hB
   go_wp2_with fail
   clear hW b1 k0' k1 k2' k3
   generalize wr.heap.size=bs at *
   go_loopw [17] (fun i w3 => ∃ m:Nat,m≤(S k).nf∧i = .int .i64 m∧Seens w3 base (.slice (some ⟨g,0,none⟩) n cap) n fv ov (part S frm to k m)∧Boxes w3 bf bt frm to∧Below base w w3∧w3.heap[bs]? = some (.cells #[.string (S k).name,.slice a1 (S k).nf c1,.string (S k).own,.slice a2 (S k).nf c2] 147 (0,0))) (fun i _=>(S k).nf - (intOf i).toNat)
   case atStart=>exact ⟨0,Nat.zero_le _,rfl,HSW.out,HXW.out,HBW.out,HS0.out⟩
   case round =>
    obtain ⟨m,hm,rfl,hSm,hxm,hwm,hsm⟩:=hrel
    by_cases hmlt:m < (S k).nf
    ·have hfr:=hSm.fields k hlt
     rw [E1.out] at hfr
     rcases hfr.shape with ⟨hv0,hz0⟩ | ⟨fb,fc,hv,hfb,-,-⟩
     ·exact absurd (show (S k).nf=0 from hz0) (by omega)
     cases hv
     have hmlt':(m:Int) < ((S k).nf:Int):=by omega
     have hm0:(0:Int)≤(m:Int):=by omega
     have b1:wr.cell? ⟨bs,1,none⟩=some (.slice (some ⟨fb,0,none⟩) (S k).nf c1):=by simp [World.cell?,hsm]
     have hty:wr.cell? ⟨fb,m * 3 + 2,none⟩=some (.string ((S k).F m).type):=by
      rw [hfr.cell (j:=m * 3 + 2) (by have:(part S frm to k m k).nf=(S k).nf:=rfl; omega),fieldCell2,part_at]
     have hfz:=hfr.free (m * 3 + 2)
     have cf:=cell_of_one hxm.f
     have ct:=cell_of_one hxm.t
     have HSM:Hid (Seens wr base (.slice (some ⟨g,0,none⟩) n cap) n fv ov (part S frm to k m)):=hSm
     have HXM:Hid (Boxes wr bf bt frm to):=hxm
     have HWM:Hid (Below base w wr):=hwm
     have HSB:Hid (wr.heap[bs]? = some (.cells #[.string (S k).name,.slice (some ⟨fb,0,none⟩) (S k).nf c1,.string (S k).own,.slice a2 (S k).nf c2] 147 (0,0))):=hsm
     clear hfr hSm hxm hwm hsm HSW HXW HBW HS0
     cases he:eqs ((S k).F m).type frm
     ·have hcl:=callType1_miss fb (m * 3) bf bt _ frm wr hty cf he
      go_wp2_with fail
      refine hcl.mono ?_
      clear hcl
      rintro e w4 ⟨rfl,q,rfl⟩
      have R:=each_miss HSM.out HXM.out HWM.out HSB.out he q
      have HR:Hid _:=R
      clear R HSM HXM HWM HSB b1 hty hfz cf ct he
      go_wp2_with fail
      go_roundw
      case rel=>exact ⟨m + 1,by omega,by go_num,HR.out.1,HR.out.2.1,HR.out.2.2.1,HR.out.2.2.2⟩
      case measure=>simp [intOf]; omega
     ·have hcl:=callType1_hit fb (m * 3) bf bt _ frm to wr hty hfz cf ct he
      go_wp2_with fail
      refine hcl.mono ?_
      clear hcl
      rintro e w4 ⟨rfl,q,rfl⟩
      have R:=each_hit HSM.out HXM.out HWM.out HSB.out hlt hmlt hto E1.out he q
      have HR:Hid _:=R
      clear R HSM HXM HWM HSB b1 hty hfz cf ct he
      go_wp2_with fail
      go_roundw
      case rel=>exact ⟨m + 1,by omega,by go_num,HR.out.1,HR.out.2.1,HR.out.2.2.1,HR.out.2.2.2⟩
      case measure=>simp [intOf]; omega
    ·have hmm:m=(S k).nf:=by omega
     have HSM:Hid (Seens wr base (.slice (some ⟨g,0,none⟩) n cap) n fv ov (part S frm to (k + 1) 0)):=part_next (by rw [← hmm]; exact hSm)
     have HXM:Hid (Boxes wr bf bt frm to):=hxm
     have HWM:Hid (Below base w wr):=hwm
     clear hmm hSm hxm hwm hsm HSW HXW HBW HS0
     go_wp2_with fail
     go_roundw
     case rel=>exact ⟨k + 1,by omega,by go_num,HSM.out,HXM.out,HWM.out⟩
     case measure=>simp [intOf]; omega
  ·have hkn:k=n:=by omega
   have HSM:Hid (Seens wr base (.slice a n cap) n fv ov (part S frm to n 0)):=by have h:=hSr; rw [hkn] at h; exact h
   have HWM:Hid (Below base w wr):=hw
   clear hkn hSr hxr hw
   go_wp2_with fail
   go_end0
   exact ⟨rfl,HSM.out,HWM.out⟩
end Go.Proofs.YtjjggefmmeminacGreat
