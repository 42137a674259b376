/-
  What is seen of a schema, as it lies in the call's own memory: a row of seen types, a row of fields and a row of own names each; what a store into one of them leaves of the rest.
-/
import Derived.Test.YtjjggefmmeminabRowm
namespace Go.Proofs.Ytjjggefmmeminab
open Go.RowKit Go.Sort

/-! What is seen -/
structure PSeen where
  name : ByteArray
  nf : Nat
  F : Nat → LField
  own : ByteArray
  O : Nat → ByteArray

def fieldCell (F : Nat → LField) (j : Nat) : Value := if j % 3 = 0 then .string (F (j / 3)).name else if j % 3 = 1 then .int .i64 (F (j / 3)).kind else .string (F (j / 3)).type
def seenCell (S : Nat → PSeen) (fv ov : Nat → Value) (j : Nat) : Value := if j % 4 = 0 then .string (S (j / 4)).name else if j % 4 = 1 then fv (j / 4) else if j % 4 = 2 then .string (S (j / 4)).own else ov (j / 4)

theorem fieldCell0 (F : Nat → LField) (i : Nat) : fieldCell F (i * 3) = .string (F i).name := by unfold fieldCell; rw [if_pos (by omega), show i * 3 / 3 = i by omega]
theorem fieldCell1 (F : Nat → LField) (i : Nat) : fieldCell F (i * 3 + 1) = .int .i64 (F i).kind := by unfold fieldCell; rw [if_neg (by omega), if_pos (by omega), show (i * 3 + 1) / 3 = i by omega]
theorem fieldCell2 (F : Nat → LField) (i : Nat) : fieldCell F (i * 3 + 2) = .string (F i).type := by unfold fieldCell; rw [if_neg (by omega), if_neg (by omega), show (i * 3 + 2) / 3 = i by omega]
theorem seenCell0 (S : Nat → PSeen) (fv ov : Nat → Value) (i : Nat) : seenCell S fv ov (i * 4) = .string (S i).name := by unfold seenCell; rw [if_pos (by omega), show i * 4 / 4 = i by omega]
theorem seenCell1 (S : Nat → PSeen) (fv ov : Nat → Value) (i : Nat) : seenCell S fv ov (i * 4 + 1) = fv i := by unfold seenCell; rw [if_neg (by omega), if_pos (by omega), show (i * 4 + 1) / 4 = i by omega]
theorem seenCell2 (S : Nat → PSeen) (fv ov : Nat → Value) (i : Nat) : seenCell S fv ov (i * 4 + 2) = .string (S i).own := by unfold seenCell; rw [if_neg (by omega), if_neg (by omega), if_pos (by omega), show (i * 4 + 2) / 4 = i by omega]
theorem seenCell3 (S : Nat → PSeen) (fv ov : Nat → Value) (i : Nat) : seenCell S fv ov (i * 4 + 3) = ov i := by unfold seenCell; rw [if_neg (by omega), if_neg (by omega), if_neg (by omega), show (i * 4 + 3) / 4 = i by omega]

/-- Texts and numbers that may stand there. -/
def GoodF (f : LField) : Prop := Small f.name ∧ Small f.type ∧ (Lit.int .i64 f.kind).wf = true
def GoodS (s : PSeen) : Prop := Small s.name ∧ Small s.own ∧ s.nf ≤ maxLen ∧ (∀ j, j < s.nf → GoodF (s.F j)) ∧ ∀ j, j < s.nf → Small (s.O j)

structure Seens (w : World) (base : Nat) (v : Value) (n : Nat) (fv ov : Nat → Value) (S : Nat → PSeen) : Prop where
  nmax : n ≤ maxLen
  row : Row w base 154 4 v n (seenCell S fv ov)
  fields : ∀ i, i < n → Row w base 138 3 (fv i) (S i).nf (fieldCell (S i).F)
  owns : ∀ i, i < n → Row w base 9 1 (ov i) (S i).nf (textCell (S i).O)
  fapart : ∀ i j, i < n → j < n → i ≠ j → ∀ k, (fv i).ownBlock = some k → (fv j).ownBlock ≠ some k
  oapart : ∀ i j, i < n → j < n → i ≠ j → ∀ k, (ov i).ownBlock = some k → (ov j).ownBlock ≠ some k
  good : ∀ i, i < n → GoodS (S i)

theorem Seens.kept {w w' : World} {base n : Nat} {v : Value} {fv ov : Nat → Value} {S : Nat → PSeen} (h : Seens w base v n fv ov S) (hB : Below w.heap.size w w') : Seens w' base v n fv ov S :=
  ⟨h.nmax, h.row.kept hB, fun i hi => (h.fields i hi).kept hB, fun i hi => (h.owns i hi).kept hB, h.fapart, h.oapart, h.good⟩

theorem Row.fieldsAt {w : World} {base e nf : Nat} {v : Value} {F : Nat → LField} (h : Row w base e 3 v nf (fieldCell F)) (hn : nf ≤ maxLen) (hg : ∀ j, j < nf → GoodF (F j)) : ∃ a cap, v = .slice a nf cap ∧ nf ≤ cap ∧ FieldsAt w a nf F := by
  rcases h.shape with ⟨rfl, rfl⟩ | ⟨g, cap, rfl, -, hc, -⟩
  · exact ⟨none, 0, rfl, Nat.le_refl _, Nat.zero_le _, fun i hi => absurd hi (Nat.not_lt_zero _)⟩
  · refine ⟨_, cap, rfl, hc, hn, fun i hi => ⟨g, 0, rfl, ?_, ?_, ?_, hg i hi⟩⟩
    · rw [h.cell (by omega), Nat.zero_add, fieldCell0]
    · rw [h.cell (by omega), Nat.zero_add, fieldCell1]
    · rw [h.cell (by omega), Nat.zero_add, fieldCell2]
/-- The four cells of a seen type. -/
theorem Seens.cells {w : World} {base n g cap : Nat} {fv ov : Nat → Value} {S : Nat → PSeen} (h : Seens w base (.slice (some ⟨g, 0, none⟩) n cap) n fv ov S) {i : Nat} (hi : i < n) :
    w.cell? ⟨g, i * 4, none⟩ = some (.string (S i).name) ∧ w.cell? ⟨g, i * 4 + 1, none⟩ = some (fv i) ∧ w.cell? ⟨g, i * 4 + 2, none⟩ = some (.string (S i).own) ∧ w.cell? ⟨g, i * 4 + 3, none⟩ = some (ov i) := by
  refine ⟨?_, ?_, ?_, ?_⟩
  · rw [h.row.cell (by omega), seenCell0]
  · rw [h.row.cell (by omega), seenCell1]
  · rw [h.row.cell (by omega), seenCell2]
  · rw [h.row.cell (by omega), seenCell3]
theorem Seens.ptr {w : World} {base n : Nat} {v : Value} {fv ov : Nat → Value} {S : Nat → PSeen} (h : Seens w base v n fv ov S) {i : Nat} (hi : i < n) : ∃ g cap, v = .slice (some ⟨g, 0, none⟩) n cap ∧ base ≤ g ∧ n ≤ cap := by
  rcases h.row.shape with ⟨-, rfl⟩ | ⟨g, cap, hv, hb, hc, -⟩
  · omega
  · exact ⟨g, cap, hv, hb, hc⟩
theorem Seens.slice {w : World} {base n : Nat} {v : Value} {fv ov : Nat → Value} {S : Nat → PSeen} (h : Seens w base v n fv ov S) : ∃ a cap, v = .slice a n cap ∧ n ≤ cap := by
  rcases h.row.shape with ⟨rfl, rfl⟩ | ⟨g, cap, hv, hb, hc, -⟩
  · exact ⟨_, _, rfl, Nat.le_refl _⟩
  · exact ⟨_, _, hv, hc⟩

/-- A seen type is called otherwise. -/
theorem Seens.setName {w : World} {base n g cap : Nat} {fv ov : Nat → Value} {S : Nat → PSeen} (h : Seens w base (.slice (some ⟨g, 0, none⟩) n cap) n fv ov S) {t : Nat} {to : ByteArray} (hs : Small to) :
    Seens (w.setCell ⟨g, t * 4, none⟩ (.string to)) base (.slice (some ⟨g, 0, none⟩) n cap) n fv ov (fun i => { S i with name := if i = t then to else (S i).name }) := by
  have n1 : ∀ i, i < n → (fv i).ownBlock ≠ some g := fun i hi => h.row.ne (h.fields i hi) (by decide) (k := g) rfl
  have n2 : ∀ i, i < n → (ov i).ownBlock ≠ some g := fun i hi => h.row.ne (h.owns i hi) (by decide) (k := g) rfl
  refine ⟨h.nmax, (h.row.set (t * 4) (.string to)).congr ?_, fun i hi => (h.fields i hi).set_other (p := ⟨g, t * 4, none⟩) (n1 i hi) _, fun i hi => (h.owns i hi).set_other (p := ⟨g, t * 4, none⟩) (n2 i hi) _, h.fapart, h.oapart, fun i hi => ?_⟩
  · intro j hj
    by_cases hjt : j = t * 4
    · subst hjt
      rw [if_pos rfl, seenCell0]; simp
    · rw [if_neg hjt]
      unfold seenCell
      by_cases h0 : j % 4 = 0
      · rw [if_pos h0, if_pos h0]; simp [show ¬ j / 4 = t by omega]
      · rw [if_neg h0, if_neg h0]
  · obtain ⟨q1, q2⟩ := h.good i hi
    refine ⟨?_, q2⟩
    by_cases hit : i = t
    · simp [hit]; exact hs
    · simp [hit]; exact q1

/-- A cell of a field is stored. -/
theorem Seens.setField {w : World} {base n : Nat} {v : Value} {fv ov : Nat → Value} {S : Nat → PSeen} (h : Seens w base v n fv ov S) {t : Nat} (ht : t < n) {fb cap : Nat} (hfv : fv t = .slice (some ⟨fb, 0, none⟩) (S t).nf cap) (u : Value) (p : Nat) (G : Nat → LField)
    (hG : ∀ q, q < (S t).nf * 3 → (if q = p then u else fieldCell (S t).F q) = fieldCell G q) (hg : ∀ j, j < (S t).nf → GoodF (G j)) :
    Seens (w.setCell ⟨fb, p, none⟩ u) base v n fv ov (fun i => { S i with F := if i = t then G else (S i).F }) := by
  have hft := h.fields t ht
  have hbt : (fv t).ownBlock = some fb := by rw [hfv]; rfl
  have n1 : v.ownBlock ≠ some fb := hft.ne h.row (by decide) hbt
  have n2 : ∀ i, i < n → (ov i).ownBlock ≠ some fb := fun i hi => hft.ne (h.owns i hi) (by decide) hbt
  refine ⟨h.nmax, (h.row.set_other (p := ⟨fb, p, none⟩) n1 _).congr ?_, fun i hi => ?_, fun i hi => (h.owns i hi).set_other (p := ⟨fb, p, none⟩) (n2 i hi) _, h.fapart, h.oapart, fun i hi => ?_⟩
  · intro j hj; rfl
  · by_cases hit : i = t
    · subst hit
      rw [hfv] at hft ⊢
      refine (hft.set p u).congr ?_
      intro q hq
      simp only [if_pos]
      exact hG q hq
    · simp only [hit, if_false]
      exact (h.fields i hi).set_other (p := ⟨fb, p, none⟩) (h.fapart t i ht hi (Ne.symm hit) fb hbt) _
  · obtain ⟨q1, q2, q3, q4, q5⟩ := h.good i hi
    refine ⟨q1, q2, q3, ?_, q5⟩
    by_cases hit : i = t
    · subst hit; simpa using hg
    · simpa [hit] using q4
end Go.Proofs.Ytjjggefmmeminab
