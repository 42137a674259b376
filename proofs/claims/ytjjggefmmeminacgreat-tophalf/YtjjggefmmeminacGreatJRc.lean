import Derived.Test.YtjjggefmmeminacGreatJBase
namespace Go.Proofs.YtjjggefmmeminacGreat
open Go.RowKit
def stg (E:List Nat) (L:Nat→Bool):Nat:=(E.filter L).length
theorem stg_also {E:List Nat} {L:Nat→Bool} {i:Nat} (h:E.contains i=false):stg E (also L i)=stg E L:=by
 unfold stg
 rw [List.filter_congr fun x hx=>also_no (L:=L) (i:=i) (k:=x) fun e=>?_]
 subst e
 rw [List.contains_eq_mem,decide_eq_false_iff_not] at h
 exact h hx
theorem stg_eff {e:Nat} {L:Nat→Bool} (hL:L e=false):∀ {E:List Nat},E.Nodup→e ∈ E→stg E (also L e)=stg E L + 1
 | [],_,h=>by cases h
 | x :: E,hn,h=>by
  have hx:=List.nodup_cons.1 hn
  by_cases ex:x=e
  ·subst ex
   have h1:stg E (also L x)=stg E L:=stg_also (by rw [List.contains_eq_mem,decide_eq_false_iff_not]; exact hx.1)
   unfold stg at h1 ⊢
   rw [List.filter_cons_of_pos (by exact also_yes),List.filter_cons_of_neg (by rw [hL]; decide),List.length_cons,h1]
  ·have hm:e ∈ E:=by
    rcases List.mem_cons.1 h with h | h
    ·exact absurd h.symm ex
    ·exact h
   have h1:=stg_eff hL hx.2 hm
   unfold stg at h1 ⊢
   cases hLx:L x with
   | true=>rw [List.filter_cons_of_pos (by rw [also_no ex]; exact hLx),List.filter_cons_of_pos hLx,List.length_cons,List.length_cons,h1]
   | false=>rw [List.filter_cons_of_neg (by rw [also_no ex,hLx]; decide),List.filter_cons_of_neg (by rw [hLx]; decide),h1]
theorem stg_lt {E:List Nat} {L:Nat→Bool} {e:Nat} (he:e ∈ E) (h:L e=false):stg E L < E.length:=by
 unfold stg
 exact List.length_filter_lt_length_iff_exists.2 ⟨e,he,by rw [h]; decide⟩
theorem stg_all {E:List Nat} {L:Nat→Bool} (h:∀ e,e ∈ E→L e=true):stg E L=E.length:=by
 unfold stg
 rw [List.filter_eq_self.2 h]
theorem stg_none (E:List Nat):stg E (fun _=>false)=0:=by
 unfold stg
 rw [List.filter_eq_nil_iff.2 (fun _ _=>by decide)]; rfl
def chG (E xs:List Nat) (P:Nat→(Nat→Value)→World→Prop) (L:Nat→Bool) (s:Nat→Value) (w:World):Prop:=P (stg E L) (fun i=>s (xs.getD i 0)) w
theorem chG.start {E xs:List Nat} {P:Nat→(Nat→Value)→World→Prop} {s:Nat→Value} {w:World} (h:P 0 (fun i=>s (xs.getD i 0)) w):chG E xs P (fun _=>false) s w:=by
 unfold chG; rw [stg_none]; exact h
theorem chG.read {E xs:List Nat} {P:Nat→(Nat→Value)→World→Prop} {L:Nat→Bool} {s:Nat→Value} {w:World} (h:chG E xs P L s w) {i d:Nat} (hi:E.contains i=false) (hd:(0 :: xs).contains d=false) (v:Value):chG E xs P (also L i) (updS s (some d) v) w:=by
 unfold chG at *
 rw [stg_also hi]
 have e:(fun i=>updS s (some d) v (xs.getD i 0))=fun i=>s (xs.getD i 0):=by
  funext j
  refine updS_no fun e=>?_
  rw [List.contains_eq_mem,decide_eq_false_iff_not] at hd
  refine hd ?_
  rw [← e,List.getD_eq_getElem?_getD]
  cases hj:xs[j]? with
  | none=>simp
  | some y=>exact List.mem_cons_of_mem _ (List.mem_of_getElem? hj)
 rw [e]; exact h
theorem chG.eff {E xs:List Nat} {P:Nat→(Nat→Value)→World→Prop} {L:Nat→Bool} {s':Nat→Value} {w':World} {e j:Nat} (hE:E.Nodup) (he:e ∈ E) (hL:L e=false) (hj:stg E L=j) (h:P (j + 1) (fun i=>s' (xs.getD i 0)) w'):chG E xs P (also L e) s' w':=by
 unfold chG; rw [stg_eff hL hE he,hj]; exact h
end Go.Proofs.YtjjggefmmeminacGreat
namespace Go.Proofs.YtjjggefmmeminacGreat
open Go.RowKit
def bxO (ia sa:Nat) (L:Nat→Bool) (s:Nat→Value):Option Nat:=if L ia=true then (match s sa with
 | .pointer (some a)=>some a.block
 | _=>none) else none
def chB (E xs:List Nat) (ia sa:Nat) (P:Nat→(Nat→Value)→Option Nat→World→Prop) (L:Nat→Bool) (s:Nat→Value) (w:World):Prop :=
 (L ia=true→∃ b,s sa = .pointer (some ⟨b,0,none⟩))∧P (stg E L) (fun i=>s (xs.getD i 0)) (bxO ia sa L s) w
theorem chB.start {E xs:List Nat} {ia sa:Nat} {P:Nat→(Nat→Value)→Option Nat→World→Prop} {s:Nat→Value} {w:World} (h:P 0 (fun i=>s (xs.getD i 0)) none w):chB E xs ia sa P (fun _=>false) s w:=by
 refine ⟨(fun h=>by cases h),?_⟩
 rw [stg_none]; exact h
theorem getD_ne {xs:List Nat} {d:Nat} (hd:(0 :: xs).contains d=false) (j:Nat):xs.getD j 0≠d:=fun e=>by
 rw [List.contains_eq_mem,decide_eq_false_iff_not] at hd
 refine hd ?_
 rw [← e,List.getD_eq_getElem?_getD]
 cases hj:xs[j]? with
 | none=>simp
 | some y=>exact List.mem_cons_of_mem _ (List.mem_of_getElem? hj)
theorem bxO_also {ia sa i:Nat} {L:Nat→Bool} {s s':Nat→Value} (hi:ia≠i) (hs:s' sa=s sa):bxO ia sa (also L i) s'=bxO ia sa L s:=by
 unfold bxO; rw [also_no hi,hs]
theorem chB.read {E xs:List Nat} {ia sa:Nat} {P:Nat→(Nat→Value)→Option Nat→World→Prop} {L:Nat→Bool} {s:Nat→Value} {w:World} (h:chB E xs ia sa P L s w) {i d:Nat} (hi:(ia :: E).contains i=false) (hd:(0 :: sa :: xs).contains d=false) (v:Value):chB E xs ia sa P (also L i) (updS s (some d) v) w:=by
 obtain ⟨h1,h2⟩:=h
 rw [List.contains_eq_mem,decide_eq_false_iff_not] at hi hd
 have hia:ia≠i:=fun e=>hi (by rw [e]; simp)
 have hsa:sa≠d:=fun e=>hd (by rw [e]; simp)
 have hE:E.contains i=false:=by rw [List.contains_eq_mem,decide_eq_false_iff_not]; exact fun h=>hi (by simp [h])
 have hx:(0 :: xs).contains d=false:=by
  rw [List.contains_eq_mem,decide_eq_false_iff_not]
  intro h
  rcases List.mem_cons.1 h with h | h
  ·exact hd (by simp [h])
  ·exact hd (by simp [h])
 refine ⟨fun hl=>?_,?_⟩
 ·rw [also_no hia] at hl
  rw [updS_no hsa]; exact h1 hl
 ·rw [stg_also hE,bxO_also hia (updS_no hsa)]
  have e:(fun i=>updS s (some d) v (xs.getD i 0))=fun i=>s (xs.getD i 0):=funext fun j=>updS_no (getD_ne hx j)
  rw [e]; exact h2
theorem chB.alloc {E xs:List Nat} {ia sa:Nat} {P:Nat→(Nat→Value)→Option Nat→World→Prop} {L:Nat→Bool} {s:Nat→Value} {w:World} (h:chB E xs ia sa P L s w) (hl:L ia=false) (hi:E.contains ia=false) (hd:(0 :: xs).contains sa=false) {o:Obj} (hP:∀ j x,P j x none w→P j x (some w.heap.size) (w.alloc o)):chB E xs ia sa P (also L ia) (updS s (some sa) (.pointer (some ⟨w.heap.size,0,none⟩))) (w.alloc o):=by
 obtain ⟨-,h2⟩:=h
 refine ⟨fun _=>⟨w.heap.size,updS_yes⟩,?_⟩
 have e0:bxO ia sa L s=none:=by unfold bxO; rw [hl]; rfl
 have e1:bxO ia sa (also L ia) (updS s (some sa) (.pointer (some ⟨w.heap.size,0,none⟩)))=some w.heap.size:=by unfold bxO; rw [also_yes,if_pos rfl,updS_yes]
 have e:(fun i=>updS s (some sa) (.pointer (some ⟨w.heap.size,0,none⟩)) (xs.getD i 0))=fun i=>s (xs.getD i 0):=funext fun j=>updS_no (getD_ne hd j)
 rw [e0] at h2
 rw [e1,stg_also hi,e]
 exact hP _ _ h2
theorem chB.eff {E xs:List Nat} {ia sa:Nat} {P:Nat→(Nat→Value)→Option Nat→World→Prop} {L:Nat→Bool} {s s':Nat→Value} {w w':World} {e j:Nat} (h:chB E xs ia sa P L s w) (hE:E.Nodup) (he:e ∈ E) (hL:L e=false) (hj:stg E L=j) (hi:ia≠e) (hs:s' sa=s sa) (hp:P (j + 1) (fun i=>s' (xs.getD i 0)) (bxO ia sa L s) w'):chB E xs ia sa P (also L e) s' w':=by
 refine ⟨fun hl=>?_,?_⟩
 ·rw [also_no hi] at hl
  rw [hs]; exact h.1 hl
 ·rw [stg_eff hL hE he,hj,bxO_also hi hs]; exact hp
theorem bxO_ptr {ia sa b:Nat} {L:Nat→Bool} {s:Nat→Value} (hl:L ia=true) (hs:s sa = .pointer (some ⟨b,0,none⟩)):bxO ia sa L s=some b:=by unfold bxO; rw [if_pos hl,hs]
end Go.Proofs.YtjjggefmmeminacGreat
