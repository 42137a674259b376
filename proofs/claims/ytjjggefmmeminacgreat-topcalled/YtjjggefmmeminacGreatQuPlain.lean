import Derived.Test.YtjjggefmmeminacGreatQpPlain
import Derived.Test.YtjjggefmmeminacGreatQtPlain
/-
  What is printed is parsed, and what is parsed is right: as plain functions.
-/
namespace Go.Proofs.YtjjggefmmeminacGreat
open Go.RowKit Go.Sort Go.PlainAid

/-! Bytes at a place of a text -/
def At (s : ByteArray) (i : Nat) (l : List UInt8) : Prop := ∃ r, s.data.toList.drop i = l ++ r
theorem At.app {s : ByteArray} {i : Nat} {l m : List UInt8} (h : At s i (l ++ m)) : At s i l ∧ At s (i + l.length) m := by
  obtain ⟨r, hr⟩ := h
  refine ⟨⟨m ++ r, by rw [hr, List.append_assoc]⟩, ⟨r, ?_⟩⟩
  rw [← List.drop_drop, hr, List.append_assoc, List.drop_left]
theorem At.head {s : ByteArray} {i : Nat} {x : UInt8} {l : List UInt8} (h : At s i (x :: l)) : i < s.size ∧ bt s i = (x.toNat : Int) := by
  obtain ⟨r, hr⟩ := h
  have h0 : s.data.toList[i]? = some x := by
    have : (s.data.toList.drop i)[0]? = some x := by rw [hr]; rfl
    rwa [List.getElem?_drop, Nat.add_zero] at this
  obtain ⟨hi, he⟩ := List.getElem?_eq_some_iff.1 h0
  have hs : i < s.size := by rw [size_list]; exact hi
  refine ⟨hs, ?_⟩
  unfold bt
  rw [dif_pos hs]
  have e : s[i]'hs = x := by rw [← he]; simp [ByteArray.getElem_eq_getElem_data]
  rw [e]
theorem At.tail {s : ByteArray} {i : Nat} {x : UInt8} {l : List UInt8} (h : At s i (x :: l)) : At s (i + 1) l := (At.app (l := [x]) (m := l) h).2
theorem span_all {s : ByteArray} {f : Int → Bool} : ∀ (l : List UInt8) (i : Nat), (∀ x ∈ l, f (x.toNat : Int) = true) → At s i l → span s f i = span s f (i + l.length)
  | [], i, _, _ => rfl
  | x :: l, i, hf, h => by
    obtain ⟨h1, h2⟩ := h.head
    rw [span_step h1 (by rw [h2]; exact hf x (by simp)), span_all l (i + 1) (fun y hy => hf y (by simp [hy])) h.tail, List.length_cons, show i + 1 + l.length = i + (l.length + 1) by omega]

/-! Names -/
theorem bt_list {x : ByteArray} {j : Nat} (hj : j < x.size) : bt x j = ((x.data.toList[j]'(by rw [← size_list]; exact hj)).toNat : Int) := by
  unfold bt; rw [dif_pos hj]; simp [ByteArray.getElem_eq_getElem_data]
theorem named_iff {x : ByteArray} : named x = true ↔ 0 < x.size ∧ x.size ≤ 12 ∧ letterB (bt x 0) = true ∧ ∀ j, j < x.size → wordB (bt x j) = true := by
  unfold named
  rw [Bool.and_eq_true, decide_eq_true_eq, idx_neg]
  simp only [Bool.not_eq_true', Bool.or_eq_false_iff, decide_eq_false_iff_not, Bool.not_eq_false']
  constructor
  · rintro ⟨⟨⟨h1, h2⟩, h3⟩, h4⟩
    refine ⟨by omega, by omega, h3, fun j hj => ?_⟩
    have := h4 j hj
    unfold oddB at this
    unfold wordB
    cases h5 : letterB (bt x j) <;> cases h6 : digitB (bt x j) <;> simp [h5, h6] at this ⊢
  · rintro ⟨h1, h2, h3, h4⟩
    refine ⟨⟨⟨by omega, by omega⟩, h3⟩, fun j hj => ?_⟩
    have := h4 j hj
    unfold wordB at this
    unfold oddB
    cases h5 : letterB (bt x j) <;> cases h6 : digitB (bt x j) <;> simp [h5, h6] at this ⊢
theorem named_all {x : ByteArray} (h : named x = true) : ∀ y ∈ x.data.toList, wordB (y.toNat : Int) = true := by
  intro y hy
  obtain ⟨j, hj, rfl⟩ := List.mem_iff_getElem.1 hy
  have hj' : j < x.size := by rw [size_list]; exact hj
  rw [← bt_list hj']; exact (named_iff.1 h).2.2.2 j hj'
theorem named_cons {x : ByteArray} (h : named x = true) : ∃ y l, x.data.toList = y :: l ∧ letterB (y.toNat : Int) = true := by
  obtain ⟨h1, -, h3, -⟩ := named_iff.1 h
  have h0 := bt_list h1
  have hl : 0 < x.data.toList.length := by rw [← size_list]; exact h1
  cases hx : x.data.toList with
  | nil => rw [hx] at hl; exact absurd hl (Nat.lt_irrefl _)
  | cons y l =>
    refine ⟨y, l, rfl, ?_⟩
    have e : (x.data.toList[0]'hl) = y := by simp [hx]
    rw [h0, e] at h3; exact h3
theorem letter_not {c : Int} (h : letterB c = true) : blankB c = false ∧ (c == 58) = false ∧ (c == 123) = false ∧ (c == 125) = false := by
  unfold letterB at h
  simp only [Bool.and_eq_true, decide_eq_true_eq] at h
  unfold blankB
  refine ⟨?_, ?_, ?_, ?_⟩
  · rw [Bool.or_eq_false_iff, beq_eq_false_iff_ne, beq_eq_false_iff_ne]; omega
  all_goals rw [beq_eq_false_iff_ne]; omega
theorem extract_at {s x : ByteArray} {i : Nat} (h : At s i x.data.toList) : s.extract i (i + x.size) = x := by
  obtain ⟨r, hr⟩ := h
  apply bytes_inj
  rw [ByteArray.data_extract, Array.toList_extract]
  simp only [List.extract_eq_take_drop]
  rw [hr, show i + x.size - i = x.data.toList.length by rw [size_list]; omega, List.take_left]
/-- A name that stands there, and no more of it, is read. -/
theorem pName_read {s x : ByteArray} {i : Nat} {c : UInt8} (hx : named x = true) (hc : wordB (c.toNat : Int) = false) (h : At s i (x.data.toList ++ [c])) : pName s i = .ok (x, i + x.size) := by
  obtain ⟨h1, h2⟩ := h.app
  rw [← size_list] at h2
  obtain ⟨y, l, hy, hyl⟩ := named_cons hx
  have h3 := h1
  rw [hy] at h3
  obtain ⟨b1, b2⟩ := h3.head
  obtain ⟨c1, c2⟩ := h2.head
  have hs : skipB s i = i := span_stop (by rw [b2]; exact (letter_not hyl).1)
  have hw : wend s i = i + x.size := by
    have := span_all (f := wordB) x.data.toList i (named_all hx) h1
    unfold wend
    rw [this, ← size_list]
    exact span_stop (by rw [c2]; exact hc)
  unfold pName
  rw [hs, hw, decide_eq_true b1, b2, hyl, if_neg (by decide), if_neg (by have := (named_iff.1 hx).2.1; omega), extract_at h1]
/-- What is read as a name is one. -/
theorem pName_named {s : ByteArray} {i : Nat} {r : ByteArray × Nat} (h : pName s i = .ok r) : named r.1 = true := by
  unfold pName at h
  by_cases h1 : (!(decide (skipB s i < s.size) && letterB (bt s (skipB s i)))) = true
  · rw [if_pos h1] at h; cases h
  rw [if_neg h1] at h
  by_cases h2 : 12 < wend s (skipB s i) - skipB s i
  · rw [if_pos h2] at h; cases h
  rw [if_neg h2] at h
  cases h
  simp only [Bool.not_eq_true, Bool.not_eq_false', Bool.and_eq_true, decide_eq_true_eq] at h1
  generalize hk : skipB s i = k at *
  have h4 : wend s k = wend s (k + 1) := span_step h1.1 (by unfold wordB; rw [h1.2]; rfl)
  have h5 := wend_ge s (k + 1)
  have h6 := wend_le (s := s) (i := k) (by omega)
  have hsz : (s.extract k (wend s k)).size = wend s k - k := by rw [ByteArray.size_extract]; omega
  have hbt : ∀ j, j < wend s k - k → bt (s.extract k (wend s k)) j = bt s (k + j) := fun j hj => by
    have hj' : j < (s.extract k (wend s k)).size := by rw [hsz]; exact hj
    unfold bt
    rw [dif_pos hj', dif_pos (show k + j < s.size by omega), ByteArray.getElem_extract]
  refine named_iff.2 ⟨by rw [hsz]; omega, by rw [hsz]; omega, by rw [hbt 0 (by omega)]; exact h1.2, fun j hj => ?_⟩
  rw [hsz] at hj
  rw [hbt j hj]
  exact span_in _ k (k + j) rfl (by omega) (by show k + j < wend s k; omega)
end Go.Proofs.YtjjggefmmeminacGreat
