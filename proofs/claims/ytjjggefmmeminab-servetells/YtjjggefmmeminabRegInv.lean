/-
  A law for a region that draws its order and writes: an invariant over what has been done so far, kept by each operation by itself, holds whatever the order is.
-/
import Derived.WalkKit
import Derived.RegionTactic
namespace Go.Proofs.Ytjjggefmmeminab
open Go.RowKit

/-- Each operation waits for earlier ones alone. -/
def allBack (md : Region.Mode) (ops : Array Oper) : Bool := (List.range ops.size).all fun i => match ops[i]? with
  | some o => o.after.all fun e => !Region.binds md e || decide (e.on < i)
  | none => true

/-- What an operation does, where it can neither panic nor stop: the slots are a function of their number. -/
def evalS (s : Nat → Value) : Operand → Value
  | .tmp t => s t
  | .const v => v
  | .global g => .pointer (some ⟨g, 0, none⟩)
  | .func f => .func (.func f) #[] #[]
def updS (s : Nat → Value) (d : Option Nat) (v : Value) : Nat → Value := match d with
  | some d => fun j => if j = d then v else s j
  | none => s
def OpStep (P : Program) (o : Oper) (s : Nat → Value) (w : World) (K : (Nat → Value) → World → Prop) : Prop := match (execOp (evalS s) o).run P w with
  | .ok (.value v) w' => K (updS s o.dst v) w'
  | .ok .skip w' => K (updS s o.dst undef) w'
  | .ok (.enter f args) w' => Calls P f args w' fun e w'' => ∃ v, e = .returned v ∧ K (updS s o.dst v) w''
  | _ => False

def slots (a : Act) : Nat → Value := fun j => a.tmps.getD j undef
theorem eval_slots (a : Act) : a.eval = evalS (slots a) := by
  funext x; cases x <;> rfl
theorem slots_put (a : Act) (d : Option Nat) (v : Value) (h : ∀ j, d = some j → j < a.tmps.size) : slots (a.put d v) = updS (slots a) d v := by
  cases d with
  | none => rfl
  | some d =>
    funext j
    have hd := h d rfl
    simp only [slots, Act.put, updS, Array.getD_eq_getD_getElem?, Array.getElem?_setIfInBounds]
    by_cases e : j = d
    · subst e; simp [hd]
    · simp [e, Ne.symm e]

section
variable {P : Program} {md : Region.Mode} {ops : Array Oper} {Q : Exit → Act → World → Prop}

theorem ready_spec {listed : Array Bool} {i : Nat} (h : i ∈ Region.ready md ops listed) : ∃ o, ops[i]? = some o ∧ listed.getD i true = false ∧ ∀ e ∈ o.after, Region.binds md e = true → listed.getD e.on false = true := by
  unfold Region.ready at h
  rw [List.mem_filter] at h
  obtain ⟨h1, h2⟩ := h
  have hi : i < ops.size := by simpa using h1
  rw [Bool.and_eq_true] at h2
  refine ⟨ops[i], by simp [hi], by simpa using h2.1, fun e he hb => ?_⟩
  have h3 := h2.2
  simp only [hi, Array.getElem?_eq_getElem, Option.map_some, Option.getD_some, Array.all_eq_true'] at h3
  have := h3 e he
  simpa [hb] using this
theorem ready_none {listed : Array Bool} (hb : allBack md ops = true) (h : Region.ready md ops listed = []) : ∀ i, i < ops.size → listed.getD i true = true := by
  intro i
  induction i using Nat.strongRecOn with
  | _ i ih =>
    intro hi
    cases hl : listed.getD i true with
    | true => rfl
    | false =>
      exfalso
      have hm : i ∈ Region.ready md ops listed := by
        unfold Region.ready
        rw [List.mem_filter]
        refine ⟨by simpa using hi, ?_⟩
        rw [Bool.and_eq_true]
        refine ⟨by simp [hl], ?_⟩
        simp only [hi, Array.getElem?_eq_getElem, Option.map_some, Option.getD_some, Array.all_eq_true']
        intro e he
        cases hbe : Region.binds md e with
        | false => simp
        | true =>
          unfold allBack at hb
          rw [List.all_eq_true] at hb
          have h1 := hb i (by simpa using hi)
          simp only [hi, Array.getElem?_eq_getElem, Array.all_eq_true'] at h1
          have h2 := h1 e he
          simp [hbe] at h2
          have h3 := ih e.on h2 (by omega)
          have h4 : e.on < listed.size ∨ ¬ e.on < listed.size := Nat.lt_or_ge _ _ |>.imp id (by omega)
          rcases h4 with h4 | h4
          · simp [Array.getD_eq_getD_getElem?, h4] at h3 ⊢; exact h3
          · exfalso
            have h5 : listed.size ≤ i := by omega
            simp [Array.getD_eq_getD_getElem?, Array.getElem?_eq_none h5] at hl
      rw [h] at hm
      cases hm

theorem wpAny_inv (hb : allBack md ops = true) (I : (Nat → Bool) → Act → World → Prop)
    (hstep : ∀ L a w i o, I L a w → ops[i]? = some o → L i = false → (∀ e ∈ o.after, Region.binds md e = true → L e.on = true) → wpOp P ops Q i (I (fun j => decide (j = i) || L j)) a w)
    (hdone : ∀ L a w, I L a w → (∀ i, i < ops.size → L i = true) → Q .normal a w) :
    ∀ (fuel : Nat) (listed : Array Bool) (a : Act) (w : World), listed.size = ops.size → ((List.range ops.size).filter (fun i => !listed.getD i true)).length ≤ fuel → I (fun j => listed.getD j false) a w → wpAny P md ops Q fuel listed a w := by
  have same : ∀ (listed : Array Bool), listed.size = ops.size → ∀ i, i < ops.size → listed.getD i false = listed.getD i true := fun listed hs i hi => by
    simp [Array.getD_eq_getD_getElem?, show i < listed.size by omega]
  have fin : ∀ (listed : Array Bool) (a : Act) (w : World), listed.size = ops.size → I (fun j => listed.getD j false) a w → Region.ready md ops listed = [] → Q .normal a w := fun listed a w hs hI h0 =>
    hdone _ a w hI fun i hi => by show listed.getD i false = true; rw [same listed hs i hi]; exact ready_none hb h0 i hi
  intro fuel
  induction fuel with
  | zero =>
    intro listed a w hs hc hI
    have h0 : Region.ready md ops listed = [] := by
      apply List.eq_nil_iff_forall_not_mem.2
      intro i hi
      obtain ⟨o, ho, hl, -⟩ := ready_spec hi
      have hlt : i < ops.size := (Array.getElem?_eq_some_iff.1 ho).1
      have : i ∈ (List.range ops.size).filter (fun i => !listed.getD i true) := by
        rw [List.mem_filter]; exact ⟨by simpa using hlt, by simp [hl]⟩
      rw [List.eq_nil_of_length_eq_zero (Nat.le_zero.1 hc)] at this
      cases this
    exact ⟨h0, fin listed a w hs hI h0⟩
  | succ fuel ih =>
    intro listed a w hs hc hI
    refine ⟨fin listed a w hs hI, fun i hi => ?_⟩
    obtain ⟨o, ho, hl, ha⟩ := ready_spec hi
    have hlt : i < ops.size := (Array.getElem?_eq_some_iff.1 ho).1
    refine wpOp_mono (fun a' w' h => ?_) (hstep _ a w i o hI ho (by show listed.getD i false = false; rw [same listed hs i hlt]; exact hl) ha)
    refine ih _ a' w' (by simpa using hs) ?_ ?_
    · have hsub : ∀ j, j < ops.size → (listed.setIfInBounds i true).getD j true = (decide (j = i) || listed.getD j true) := fun j hj => by
        simp only [Array.getD_eq_getD_getElem?, Array.getElem?_setIfInBounds]
        by_cases e : j = i
        · subst e; simp [show j < listed.size by omega]
        · simp [e, Ne.symm e]
      have hlt2 : ((List.range ops.size).filter (fun j => !(listed.setIfInBounds i true).getD j true)).length < ((List.range ops.size).filter (fun j => !listed.getD j true)).length := by
        have e1 : (List.range ops.size).filter (fun j => !(listed.setIfInBounds i true).getD j true) = ((List.range ops.size).filter (fun j => !listed.getD j true)).filter (fun j => !decide (j = i)) := by
          rw [List.filter_filter]
          refine List.filter_congr fun j hj => ?_
          rw [hsub j (by simpa using hj)]
          cases decide (j = i) <;> simp
        rw [e1]
        refine List.length_filter_lt_length_iff_exists.2 ⟨i, ?_, by simp⟩
        rw [List.mem_filter]; exact ⟨by simpa using hlt, by simp [hl]⟩
      omega
    · have e2 : (fun j => (listed.setIfInBounds i true).getD j false) = fun j => decide (j = i) || listed.getD j false := by
        funext j
        simp only [Array.getD_eq_getD_getElem?, Array.getElem?_setIfInBounds]
        by_cases e : j = i
        · subst e; simp [show j < listed.size by omega]
        · simp [e, Ne.symm e]
      rw [e2]; exact h
end

/-- The frame with these slots' values put anew. -/
def putAll (a : Act) (s : Nat → Value) : List Nat → Act
  | [] => a
  | d :: ds => putAll (a.put (some d) (s d)) s ds
theorem putAll_size (s : Nat → Value) : ∀ (D : List Nat) (a : Act), (putAll a s D).tmps.size = a.tmps.size ∧ (putAll a s D).defers = a.defers
  | [], a => ⟨rfl, rfl⟩
  | d :: ds, a => by
    obtain ⟨h1, h2⟩ := putAll_size s ds (a.put (some d) (s d))
    exact ⟨h1.trans (by simp [Act.put]), h2⟩
theorem putAll_slots (s : Nat → Value) : ∀ (D : List Nat) (a : Act), (∀ d ∈ D, d < a.tmps.size) → ∀ j, slots (putAll a s D) j = if j ∈ D then s j else slots a j
  | [], a, _, j => by simp [putAll]
  | d :: ds, a, h, j => by
    have h1 := putAll_slots s ds (a.put (some d) (s d)) (fun x hx => by simp [Act.put]; exact h x (List.mem_cons_of_mem _ hx)) j
    show slots (putAll (a.put (some d) (s d)) s ds) j = _
    rw [h1, slots_put a (some d) (s d) (fun j hj => by cases hj; exact h d (List.mem_cons_self ..))]
    by_cases e : j ∈ ds
    · simp [e]
    · by_cases e2 : j = d
      · subst e2; simp [e, updS]
      · simp [e, e2, updS]
theorem act_ext {a b : Act} (h1 : a.tmps.size = b.tmps.size) (h2 : a.defers = b.defers) (h3 : ∀ j, slots a j = slots b j) : a = b := by
  cases a with | mk ta da => cases b with | mk tb db =>
  simp only [Act.mk.injEq]
  refine ⟨Array.ext h1 fun i hi hj => ?_, h2⟩
  have := h3 i
  simpa [slots, Array.getD_eq_getD_getElem?, hi, show i < tb.size from hj] using this

theorem wp_region_inv {P : Program} {id : Nat} {l : List Oper} {Q : Exit → Act → World → Prop} {a0 : Act} {w0 : World} (hm : P.follows .mixedOrders = true) (hb : allBack .any l.toArray = true) (D : List Nat)
    (hD : l.all (fun o => o.guard == none && match o.dst with | some d => D.contains d | none => true) = true) (hsz : D.all (fun d => decide (d < a0.tmps.size)) = true)
    (J : (Nat → Bool) → (Nat → Value) → World → Prop) (h0 : J (fun _ => false) (slots a0) w0.drew)
    (hstep : ∀ L s w i o, J L s w → (∀ j, j ∉ D → s j = slots a0 j) → l[i]? = some o → L i = false → (∀ e ∈ o.after, Region.binds .any e = true → L e.on = true) → OpStep P o s w (J (fun j => decide (j = i) || L j)))
    (hdone : ∀ L s w, J L s w → (∀ i, i < l.length → L i = true) → Q .normal (putAll a0 s D) w) : (Code.region id l.toArray true).wp P Q a0 w0 := by
  have hsz' : ∀ d ∈ D, d < a0.tmps.size := fun d hd => by simpa using List.all_eq_true.1 hsz d hd
  refine wp_region_any hm ?_
  refine wpAny_inv hb (fun L a w => a.tmps.size = a0.tmps.size ∧ a.defers = a0.defers ∧ (∀ j, j ∉ D → slots a j = slots a0 j) ∧ J L (slots a) w) ?_ ?_ _ _ _ _ (by simp) ?_ ?_
  · rintro L a w i o ⟨q1, q2, q3, q4⟩ ho hl ha
    have ho' : l[i]? = some o := by simpa using ho
    have hmem : o ∈ l := List.mem_of_getElem? ho'
    have hg := List.all_eq_true.1 hD o hmem
    rw [Bool.and_eq_true] at hg
    have hgd : o.guard = none := by simpa using hg.1
    have hdst : ∀ d, o.dst = some d → d ∈ D := fun d hd => by have := hg.2; rw [hd] at this; simpa using this
    have hput : ∀ v, slots (a.put o.dst v) = updS (slots a) o.dst v := fun v => slots_put a o.dst v fun j hj => by rw [q1]; exact hsz' j (hdst j hj)
    have hkeep : ∀ v w', J (fun j => decide (j = i) || L j) (updS (slots a) o.dst v) w' → (fun (L : Nat → Bool) (a : Act) (w : World) => a.tmps.size = a0.tmps.size ∧ a.defers = a0.defers ∧ (∀ j, j ∉ D → slots a j = slots a0 j) ∧ J L (slots a) w) (fun j => decide (j = i) || L j) (a.put o.dst v) w' := fun v w' hJ => by
      refine ⟨?_, ?_, fun j hj => ?_, by rw [hput]; exact hJ⟩
      · cases o.dst <;> simp [Act.put, q1]
      · cases o.dst <;> simp [Act.put, q2]
      · rw [hput]
        cases hd : o.dst with
        | none => exact q3 j hj
        | some d =>
          show (if j = d then v else slots a j) = _
          rw [if_neg (fun e => hj (by rw [e]; exact hdst d hd))]; exact q3 j hj
    have hs := hstep L (slots a) w i o q4 q3 ho' hl ha
    have hw : Region.wanted o (yielded l.toArray a.tmps) = true := by simp [Region.wanted, hgd]
    unfold wpOp
    simp only [ho, hw, if_true]
    left
    unfold Oper.wp
    rw [eval_slots]
    unfold OpStep at hs
    generalize (execOp (evalS (slots a)) o).run P w = r at hs
    cases r with
    | ok n w' =>
      cases n with
      | value v => exact hkeep v w' hs
      | skip => exact hkeep undef w' hs
      | enter f args =>
        refine Calls.mono hs fun e w'' h => ?_
        obtain ⟨v, rfl, hJ⟩ := h
        exact hkeep v w'' hJ
      | _ => exact hs.elim
    | _ => exact hs.elim
  · rintro L a w ⟨q1, q2, q3, q4⟩ hall
    have e : a = putAll a0 (slots a) D := by
      obtain ⟨r1, r2⟩ := putAll_size (slots a) D a0
      refine act_ext (q1.trans r1.symm) (q2.trans r2.symm) fun j => ?_
      rw [putAll_slots _ _ _ hsz']
      by_cases hj : j ∈ D
      · rw [if_pos hj]
      · rw [if_neg hj]; exact q3 j hj
    rw [e]
    exact hdone L (slots a) w q4 fun i hi => hall i (by simpa using hi)
  · refine Nat.le_trans (List.length_filter_le _ _) (by simp)
  · refine ⟨rfl, rfl, fun _ _ => rfl, ?_⟩
    have e : (fun j => (Array.replicate l.toArray.size false).getD j false) = fun _ => false := by
      funext j
      simp only [Array.getD_eq_getD_getElem?, Array.getElem?_replicate]
      split <;> rfl
    rw [e]; exact h0
end Go.Proofs.Ytjjggefmmeminab
