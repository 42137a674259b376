import Derived.Test.YtjjggefmmeminacGreatJBase
/-
  The laws of RegInv and RegAs where operations have guards that are met.
-/
namespace Go.Proofs.YtjjggefmmeminacGreat
open Go.RowKit

theorem wp_region_invg {P : Program} {id : Nat} {l : List Oper} {Q : Exit → Act → World → Prop} {a0 : Act} {w0 : World} (hm : P.follows .mixedOrders = true) (hb : allBack .any l.toArray = true) (D : List Nat)
    (hD : l.all (fun o => match o.dst with | some d => D.contains d | none => true) = true) (hsz : D.all (fun d => decide (d < a0.tmps.size)) = true)
    (J : (Nat → Bool) → (Nat → Value) → World → Prop) (h0 : J (fun _ => false) (slots a0) w0.drew)
    (hguard : ∀ L s w i o g b, J L s w → (∀ j, j ∉ D → s j = slots a0 j) → l[i]? = some o → L i = false → (∀ e ∈ o.after, Region.binds .any e = true → L e.on = true) → o.guard = some (g, b) → ∃ d, (l[g]?).bind Oper.dst = some d ∧ d ∈ D ∧ s d = .bool b)
    (hstep : ∀ L s w i o, J L s w → (∀ j, j ∉ D → s j = slots a0 j) → l[i]? = some o → L i = false → (∀ e ∈ o.after, Region.binds .any e = true → L e.on = true) → OpStep P o s w (J (fun j => decide (j = i) || L j)))
    (hdone : ∀ L s w, J L s w → (∀ i, i < l.length → L i = true) → Q .normal (putAll a0 s D) w) : (Code.region id l.toArray true).wp P Q a0 w0 := by
  have hsz' : ∀ d ∈ D, d < a0.tmps.size := fun d hd => by simpa using List.all_eq_true.1 hsz d hd
  refine wp_region_any hm ?_
  refine wpAny_inv hb (fun L a w => a.tmps.size = a0.tmps.size ∧ a.defers = a0.defers ∧ (∀ j, j ∉ D → slots a j = slots a0 j) ∧ J L (slots a) w) ?_ ?_ _ _ _ _ (by simp) ?_ ?_
  · rintro L a w i o ⟨q1, q2, q3, q4⟩ ho hl ha
    have ho' : l[i]? = some o := by simpa using ho
    have hmem : o ∈ l := List.mem_of_getElem? ho'
    have hg := List.all_eq_true.1 hD o hmem
    have hdst : ∀ d, o.dst = some d → d ∈ D := fun d hd => by have := hg; rw [hd] at this; simpa using this
    have hput : ∀ v, slots (a.put o.dst v) = updS (slots a) o.dst v := fun v => slots_put a o.dst v fun j hj => by rw [q1]; exact hsz' j (hdst j hj)
    have hkeep : ∀ v w', J (fun j => decide (j = i) || L j) (updS (slots a) o.dst v) w' → (fun (L : Nat → Bool) (a : Act) (w : World) => a.tmps.size = a0.tmps.size ∧ a.defers = a0.defers ∧ (∀ j, j ∉ D → slots a j = slots a0 j) ∧ J L (slots a) w) (fun j => decide (j = i) || L j) (a.put o.dst v) w' := fun v w' hJ => by
      refine ⟨?_, ?_, fun j hj => ?_, by rw [hput]; exact hJ⟩
      · cases o.dst <;> simp [Act.put, q1]
      · cases o.dst <;> simp [Act.put, q2]
      · rw [hput]
        cases hd : o.dst with
        | none => exact q3 j hj
        | some d =>
          show (if j = d then v else slots a j) = _
          rw [if_neg (fun e => hj (by rw [e]; exact hdst d hd))]; exact q3 j hj
    have hs := hstep L (slots a) w i o q4 q3 ho' hl ha
    have hw : Region.wanted o (yielded l.toArray a.tmps) = true := by
      unfold Region.wanted
      cases hgd : o.guard with
      | none => rfl
      | some gb =>
        obtain ⟨g, b⟩ := gb
        obtain ⟨d, h1, h2, h3⟩ := hguard L (slots a) w i o g b q4 q3 ho' hl ha hgd
        have hd : d < a.tmps.size := by rw [q1]; exact hsz' d h2
        have h4 : a.tmps[d]? = some (.bool b) := by
          have h5 : slots a d = .bool b := h3
          unfold slots at h5
          rw [Array.getD_eq_getD_getElem?] at h5
          rw [Array.getElem?_eq_getElem hd] at h5 ⊢
          simpa using h5
        have h6 : yielded l.toArray a.tmps g = some b := by
          unfold yielded
          have h7 : (l.toArray[g]?).bind (·.dst) = some d := by simpa using h1
          rw [h7]
          simp [h4]
        simp [h6]
    unfold wpOp
    simp only [ho, hw, if_true]
    left
    unfold Oper.wp
    rw [eval_slots]
    unfold OpStep at hs
    generalize (execOp (evalS (slots a)) o).run P w = r at hs
    cases r with
    | ok n w' =>
      cases n with
      | value v => exact hkeep v w' hs
      | skip => exact hkeep undef w' hs
      | enter f args =>
        refine Calls.mono hs fun e w'' h => ?_
        obtain ⟨v, rfl, hJ⟩ := h
        exact hkeep v w'' hJ
      | _ => exact hs.elim
    | _ => exact hs.elim
  · rintro L a w ⟨q1, q2, q3, q4⟩ hall
    have e : a = putAll a0 (slots a) D := by
      obtain ⟨r1, r2⟩ := putAll_size (slots a) D a0
      refine act_ext (q1.trans r1.symm) (q2.trans r2.symm) fun j => ?_
      rw [putAll_slots _ _ _ hsz']
      by_cases hj : j ∈ D
      · rw [if_pos hj]
      · rw [if_neg hj]; exact q3 j hj
    rw [e]
    exact hdone L (slots a) w q4 fun i hi => hall i (by simpa using hi)
  · refine Nat.le_trans (List.length_filter_le _ _) (by simp)
  · refine ⟨rfl, rfl, fun _ _ => rfl, ?_⟩
    have e : (fun j => (Array.replicate l.toArray.size false).getD j false) = fun _ => false := by
      funext j
      simp only [Array.getD_eq_getD_getElem?, Array.getElem?_replicate]
      split <;> rfl
    rw [e]; exact h0

theorem wp_region_asg {P : Program} {id : Nat} {l : List Oper} {Q : Exit → Act → World → Prop} {a0 : Act} {w0 : World} (hm : P.follows .mixedOrders = true) (hb : allBack .any l.toArray = true) (D : List Nat)
    (hD : l.all (fun o => match o.dst with | some d => D.contains d | none => true) = true) (hsz : D.all (fun d => decide (d < a0.tmps.size)) = true) (ho : ownDst l = true)
    (con : Nat → Nat) (A : (Nat → Bool) → Nat → Value → World → Prop) (G : (Nat → Bool) → (Nat → Value) → World → Prop) (hG : G (fun _ => false) (slots a0) w0.drew)
    (hguard : ∀ (L : Nat → Bool) (s : Nat → Value) (w : World) (i : Nat) (o : Oper) (g : Nat) (b : Bool), G L s w → (∀ k, L k = true → k < l.length) → (∀ k, L k = true → live con L k → A L k (valAt l s k) w) → l[i]? = some o → (∀ e ∈ o.after, Region.binds .any e = true → L e.on = true) → o.guard = some (g, b) → ∃ d, (l[g]?).bind Oper.dst = some d ∧ d ∈ D ∧ s d = .bool b)
    (hstep : ∀ L s w i o, G L s w → (∀ k, L k = true → k < l.length) → (∀ k o, L k = true → l[k]? = some o → ∀ e ∈ o.after, Region.binds .any e = true → L e.on = true) → (∀ k, L k = true → live con L k → A L k (valAt l s k) w) → (∀ j, j ∉ D → s j = slots a0 j) → l[i]? = some o → L i = false → (∀ e ∈ o.after, Region.binds .any e = true → L e.on = true) →
      OpStep P o s w (fun s' w' => G (also L i) s' w' ∧ A (also L i) i (valAt l s' i) w' ∧ ∀ k, k ≠ i → L k = true → live con (also L i) k → A L k (valAt l s k) w → A (also L i) k (valAt l s k) w'))
    (hdone : ∀ L s w, G L s w → (∀ k, L k = true → k < l.length) → (∀ i, i < l.length → L i = true) → (∀ k, L k = true → live con L k → A L k (valAt l s k) w) → Q .normal (putAll a0 s D) w) : (Code.region id l.toArray true).wp P Q a0 w0 := by
  refine wp_region_invg hm hb D hD hsz (fun L s w => G L s w ∧ (∀ k, L k = true → k < l.length) ∧ (∀ k o, L k = true → l[k]? = some o → ∀ e ∈ o.after, Region.binds .any e = true → L e.on = true) ∧ ∀ k, L k = true → live con L k → A L k (valAt l s k) w) ⟨hG, fun k hk => (by cases hk), fun k _ hk => (by cases hk), fun k hk => (by cases hk)⟩ (fun L s w i o g b ⟨q0, q1, _, q2⟩ _ hi _ ha hgd => hguard L s w i o g b q0 q1 q2 hi ha hgd) ?_ ?_
  · rintro L s w i o ⟨q0, q1, qc, q2⟩ hf hi hl ha
    refine (hstep L s w i o q0 q1 qc q2 hf hi hl ha).mono fun v w' hK => ?_
    obtain ⟨r0, r1, r2⟩ := hK
    have hil : i < l.length := (List.getElem?_eq_some_iff.1 hi).1
    refine ⟨r0, fun k hk => ?_, fun k o' hk ho' e he hbe => ?_, fun k hk hlv => ?_⟩
    · by_cases e : k = i
      · rw [e]; exact hil
      · exact q1 k (by simpa [e] using hk)
    · by_cases ek : k = i
      · subst ek
        rw [hi] at ho'
        cases ho'
        show (decide (e.on = k) || L e.on) = true
        rw [ha e he hbe]; simp
      · have hLk : L k = true := by simpa [ek] using hk
        show (decide (e.on = i) || L e.on) = true
        rw [qc k o' hLk ho' e he hbe]; simp
    · by_cases e : k = i
      · subst e; exact r1
      · have hLk : L k = true := by simpa [e] using hk
        have hlv0 : live con L k := by
          unfold live at hlv ⊢
          have hlv' : (decide (con k = i) || L (con k)) = false := hlv
          rw [Bool.or_eq_false_iff] at hlv'
          exact hlv'.2
        have hval : valAt l (updS s o.dst v) k = valAt l s k := by
          unfold valAt
          cases hdk : dstAt l k with
          | none => rfl
          | some d =>
            cases hdo : o.dst with
            | none => rfl
            | some d' =>
              show (if d = d' then v else s d) = s d
              have hne : d ≠ d' := by
                unfold ownDst at ho
                rw [List.all_eq_true] at ho
                have h1 := ho k (by simpa using q1 k hLk)
                rw [List.all_eq_true] at h1
                have h2 := h1 i (by simpa using hil)
                have hdi : dstAt l i = some d' := by unfold dstAt; rw [hi]; exact hdo
                rw [hdk, hdi] at h2
                simpa [e] using h2
              rw [if_neg hne]
        rw [hval]
        exact r2 k e hLk hlv (q2 k hLk hlv0)
  · rintro L s w ⟨q0, q1, qc, q2⟩ hall
    exact hdone L s w q0 q1 hall q2

theorem run_callg {P : Program} {o : Oper} {s : Nat → Value} {w : World} (f : FuncId) (args : Array Operand) (tys : Array TypeId) (ho : o.op = .call { callee := .value (.func f), args := args, argTypes := tys }) (he : ∀ xs w, (callFunc f xs).run P w = .ok (.enter f xs) w) :
    (execOp (evalS s) o).run P w = .ok (.enter f (args.map (evalS s))) w := by
  have e0 : evalS s (.func f) = .func (.func f) #[] #[] := rfl
  simp [execOp, ho, resolve, invoke, Deferred.ofValue, e0, he]
theorem opStep_callg {P : Program} {o : Oper} {s : Nat → Value} {w : World} {K : (Nat → Value) → World → Prop} (f : FuncId) (args : Array Operand) (tys : Array TypeId) (ho : o.op = .call { callee := .value (.func f), args := args, argTypes := tys }) (he : ∀ xs w, (callFunc f xs).run P w = .ok (.enter f xs) w) (vs : Array Value) (hv : args.map (evalS s) = vs)
    (hk : Calls P f vs w fun e w'' => ∃ v, e = .returned v ∧ K (updS s o.dst v) w'') : OpStep P o s w K :=
  opStep_enter (by rw [run_callg f args tys ho he, hv]) hk
end Go.Proofs.YtjjggefmmeminacGreat
