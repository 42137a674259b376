/-
  The law of RegInv by assertions: each operation leaves a fact of its own slot and the world, which holds until the operation that uses it up has been done.
-/
import Derived.Test.YtjjggefmmeminabRegInv
namespace Go.Proofs.Ytjjggefmmeminab
open Go.RowKit

def dstAt (l : List Oper) (i : Nat) : Option Nat := (l[i]?).bind (·.dst)
def valAt (l : List Oper) (s : Nat → Value) (i : Nat) : Value := match dstAt l i with | some d => s d | none => undef
def also (L : Nat → Bool) (i : Nat) : Nat → Bool := fun j => decide (j = i) || L j
def live (con : Nat → Nat) (L : Nat → Bool) (k : Nat) : Prop := L (con k) = false

theorem opStep_value {P : Program} {o : Oper} {s : Nat → Value} {w w' : World} {v : Value} {K : (Nat → Value) → World → Prop} (h : (execOp (evalS s) o).run P w = .ok (.value v) w') (hk : K (updS s o.dst v) w') : OpStep P o s w K := by
  unfold OpStep; rw [h]; exact hk
theorem opStep_skip {P : Program} {o : Oper} {s : Nat → Value} {w w' : World} {K : (Nat → Value) → World → Prop} (h : (execOp (evalS s) o).run P w = .ok .skip w') (hk : K (updS s o.dst undef) w') : OpStep P o s w K := by
  unfold OpStep; rw [h]; exact hk
theorem opStep_enter {P : Program} {o : Oper} {s : Nat → Value} {w w' : World} {f : FuncId} {args : Array Value} {K : (Nat → Value) → World → Prop} (h : (execOp (evalS s) o).run P w = .ok (.enter f args) w') (hk : Calls P f args w' fun e w'' => ∃ v, e = .returned v ∧ K (updS s o.dst v) w'') : OpStep P o s w K := by
  unfold OpStep; rw [h]; exact hk
theorem OpStep.mono {P : Program} {o : Oper} {s : Nat → Value} {w : World} {K K' : (Nat → Value) → World → Prop} (h : OpStep P o s w K) (hk : ∀ v w', K (updS s o.dst v) w' → K' (updS s o.dst v) w') : OpStep P o s w K' := by
  unfold OpStep at *
  generalize (execOp (evalS s) o).run P w = r at *
  cases r with
  | ok n w' =>
    cases n with
    | value v => exact hk _ _ h
    | skip => exact hk _ _ h
    | enter f args => exact Calls.mono h fun e w'' ⟨v, he, hv⟩ => ⟨v, he, hk _ _ hv⟩
    | _ => exact h.elim
  | _ => exact h.elim

/-- Each operation has a slot of its own. -/
def ownDst (l : List Oper) : Bool := (List.range l.length).all fun i => (List.range l.length).all fun j => decide (i = j) || match dstAt l i, dstAt l j with
  | some d, some e => decide (d ≠ e)
  | _, _ => true

theorem wp_region_as {P : Program} {id : Nat} {l : List Oper} {Q : Exit → Act → World → Prop} {a0 : Act} {w0 : World} (hm : P.follows .mixedOrders = true) (hb : allBack .any l.toArray = true) (D : List Nat)
    (hD : l.all (fun o => o.guard == none && match o.dst with | some d => D.contains d | none => true) = true) (hsz : D.all (fun d => decide (d < a0.tmps.size)) = true) (ho : ownDst l = true)
    (con : Nat → Nat) (A : (Nat → Bool) → Nat → Value → World → Prop) (G : (Nat → Bool) → (Nat → Value) → World → Prop) (hG : G (fun _ => false) (slots a0) w0.drew)
    (hstep : ∀ L s w i o, G L s w → (∀ k, L k = true → k < l.length) → (∀ k o, L k = true → l[k]? = some o → ∀ e ∈ o.after, Region.binds .any e = true → L e.on = true) → (∀ k, L k = true → live con L k → A L k (valAt l s k) w) → (∀ j, j ∉ D → s j = slots a0 j) → l[i]? = some o → L i = false → (∀ e ∈ o.after, Region.binds .any e = true → L e.on = true) →
      OpStep P o s w (fun s' w' => G (also L i) s' w' ∧ A (also L i) i (valAt l s' i) w' ∧ ∀ k, k ≠ i → L k = true → live con (also L i) k → A L k (valAt l s k) w → A (also L i) k (valAt l s k) w'))
    (hdone : ∀ L s w, G L s w → (∀ k, L k = true → k < l.length) → (∀ i, i < l.length → L i = true) → (∀ k, L k = true → live con L k → A L k (valAt l s k) w) → Q .normal (putAll a0 s D) w) : (Code.region id l.toArray true).wp P Q a0 w0 := by
  refine wp_region_inv hm hb D hD hsz (fun L s w => G L s w ∧ (∀ k, L k = true → k < l.length) ∧ (∀ k o, L k = true → l[k]? = some o → ∀ e ∈ o.after, Region.binds .any e = true → L e.on = true) ∧ ∀ k, L k = true → live con L k → A L k (valAt l s k) w) ⟨hG, fun k hk => (by cases hk), fun k _ hk => (by cases hk), fun k hk => (by cases hk)⟩ ?_ ?_
  · rintro L s w i o ⟨q0, q1, qc, q2⟩ hf hi hl ha
    refine (hstep L s w i o q0 q1 qc q2 hf hi hl ha).mono fun v w' hK => ?_
    obtain ⟨r0, r1, r2⟩ := hK
    have hil : i < l.length := (List.getElem?_eq_some_iff.1 hi).1
    refine ⟨r0, fun k hk => ?_, fun k o' hk ho' e he hbe => ?_, fun k hk hlv => ?_⟩
    · by_cases e : k = i
      · rw [e]; exact hil
      · exact q1 k (by simpa [e] using hk)
    · by_cases ek : k = i
      · subst ek
        rw [hi] at ho'
        cases ho'
        show (decide (e.on = k) || L e.on) = true
        rw [ha e he hbe]; simp
      · have hLk : L k = true := by simpa [ek] using hk
        show (decide (e.on = i) || L e.on) = true
        rw [qc k o' hLk ho' e he hbe]; simp
    · by_cases e : k = i
      · subst e; exact r1
      · have hLk : L k = true := by simpa [e] using hk
        have hlv0 : live con L k := by
          unfold live at hlv ⊢
          have hlv' : (decide (con k = i) || L (con k)) = false := hlv
          rw [Bool.or_eq_false_iff] at hlv'
          exact hlv'.2
        have hval : valAt l (updS s o.dst v) k = valAt l s k := by
          unfold valAt
          cases hdk : dstAt l k with
          | none => rfl
          | some d =>
            cases hdo : o.dst with
            | none => rfl
            | some d' =>
              show (if d = d' then v else s d) = s d
              have hne : d ≠ d' := by
                unfold ownDst at ho
                rw [List.all_eq_true] at ho
                have h1 := ho k (by simpa using q1 k hLk)
                rw [List.all_eq_true] at h1
                have h2 := h1 i (by simpa using hil)
                have hdi : dstAt l i = some d' := by unfold dstAt; rw [hi]; exact hdo
                rw [hdk, hdi] at h2
                simpa [e] using h2
              rw [if_neg hne]
        rw [hval]
        exact r2 k e hLk hlv (q2 k hLk hlv0)
  · rintro L s w ⟨q0, q1, qc, q2⟩ hall
    exact hdone L s w q0 q1 hall q2
end Go.Proofs.Ytjjggefmmeminab
