/-
  Plain: parts of a schema of all, in their order; a part of a name put in; a seen type's fields put behind a part's; all services' schemas put together.
-/
import Derived.Test.YtjjggefmmeminaaMgOrd
namespace Go.Proofs.Ytjjggefmmeminaa
open Go.RowKit Go.Sort

structure POwner where
  svc : Int
  type : ByteArray
  field : ByteArray
structure PPart where
  name : ByteArray
  fs : List LField
  os : List POwner
  hs : List POwner
def dF : LField := ⟨⟨#[]⟩, 0, ⟨#[]⟩⟩
def dO : POwner := ⟨0, ⟨#[]⟩, ⟨#[]⟩⟩
def newP (s : ByteArray) : PPart := ⟨s, [], [], []⟩
def nth (L : List PPart) (i : Nat) : PPart := L.getD i (newP ⟨#[]⟩)
theorem nth_get {L : List PPart} {i : Nat} (h : i < L.length) : nth L i = L[i] := by simp [nth, List.getD, h]
theorem nth_set {L : List PPart} {t i : Nat} {p : PPart} (h : t < L.length) : nth (L.set t p) i = if i = t then p else nth L i := by
  unfold nth
  simp only [List.getD, List.getElem?_set]
  by_cases e : t = i
  · subst e; simp [h]
  · rw [if_neg e, if_neg (Ne.symm e)]

/-- Names rise. -/
def Rise (L : List PPart) : Prop := ∀ i j, i < j → j < L.length → lt (nth L i).name (nth L j).name = true

/-- How many parts stand ahead of a name. -/
def pos (L : List PPart) (s : ByteArray) : Nat := (L.takeWhile (fun p => lt p.name s)).length
theorem pos_is {s : ByteArray} : ∀ {L : List PPart} {k : Nat}, k ≤ L.length → (∀ t, t < k → lt (nth L t).name s = true) → (k < L.length → lt (nth L k).name s = false) → pos L s = k
  | [], k, h, _, _ => by
    have : k = 0 := by simpa using h
    subst this; rfl
  | p :: L, 0, _, _, h => by
    have := h (by simp)
    have h' : lt p.name s = false := this
    unfold pos; rw [List.takeWhile_cons_of_neg (by simp [h'])]; rfl
  | p :: L, k + 1, h, h1, h2 => by
    have h0 : lt p.name s = true := h1 0 (by omega)
    have ih := pos_is (s := s) (L := L) (k := k) (by simpa using h) (fun t ht => by simpa [nth] using h1 (t + 1) (by omega)) (fun hk => by simpa [nth] using h2 (by simpa using hk))
    unfold pos at ih ⊢; rw [List.takeWhile_cons_of_pos (by simpa using h0), List.length_cons, ih]
theorem pos_le (L : List PPart) (s : ByteArray) : pos L s ≤ L.length := by
  unfold pos; exact List.Sublist.length_le (List.takeWhile_sublist _)
theorem pos_lt {s : ByteArray} : ∀ {L : List PPart} {t : Nat}, t < pos L s → lt (nth L t).name s = true
  | [], t, h => by simp [pos] at h
  | p :: L, t, h => by
    unfold pos at h
    cases h0 : lt p.name s with
    | false => rw [List.takeWhile_cons_of_neg (by simp [h0])] at h; simp at h
    | true =>
      rw [List.takeWhile_cons_of_pos (by simpa using h0), List.length_cons] at h
      cases t with
      | zero => exact h0
      | succ t => simpa [nth] using pos_lt (L := L) (t := t) (by unfold pos; omega)
theorem pos_at {s : ByteArray} : ∀ {L : List PPart}, pos L s < L.length → lt (nth L (pos L s)).name s = false
  | [], h => by simp [pos] at h
  | p :: L, h => by
    cases h0 : lt p.name s with
    | false =>
      have e : pos (p :: L) s = 0 := by unfold pos; rw [List.takeWhile_cons_of_neg (by simp [h0])]; rfl
      rw [e]; exact h0
    | true =>
      have e : pos (p :: L) s = pos L s + 1 := by unfold pos; rw [List.takeWhile_cons_of_pos (by simpa using h0), List.length_cons]
      rw [e] at h ⊢
      simpa [nth] using pos_at (L := L) (by simpa using h)

/-- Is there a part of that name? -/
def hit (L : List PPart) (s : ByteArray) : Bool := decide (pos L s < L.length) && eqs (nth L (pos L s)).name s
/-- The parts, one of that name among them. -/
def ins (L : List PPart) (s : ByteArray) : List PPart := if hit L s then L else L.take (pos L s) ++ newP s :: L.drop (pos L s)
theorem ins_hit {L : List PPart} {s : ByteArray} (h : hit L s = true) : ins L s = L := by unfold ins; rw [if_pos h]
theorem ins_len {L : List PPart} {s : ByteArray} (h : hit L s = false) : (ins L s).length = L.length + 1 := by
  unfold ins; rw [h]
  simp
  have := pos_le L s; omega
theorem ins_nth {L : List PPart} {s : ByteArray} (h : hit L s = false) {i : Nat} : nth (ins L s) i = if i < pos L s then nth L i else if i = pos L s then newP s else nth L (i - 1) := by
  have hp := pos_le L s
  unfold ins; rw [h]
  simp only [Bool.false_eq_true, if_false]
  unfold nth
  simp only [List.getD]
  by_cases h1 : i < pos L s
  · rw [if_pos h1, List.getElem?_append_left (by simp; omega), List.getElem?_take, if_pos h1]
  · rw [if_neg h1, List.getElem?_append_right (by simp; omega)]
    have hl : (L.take (pos L s)).length = pos L s := by simp; omega
    rw [hl]
    by_cases h2 : i = pos L s
    · rw [if_pos h2, h2, Nat.sub_self]; rfl
    · rw [if_neg h2]
      obtain ⟨k, rfl⟩ : ∃ k, i = pos L s + 1 + k := ⟨i - (pos L s + 1), by omega⟩
      rw [show pos L s + 1 + k - pos L s = k + 1 by omega, List.getElem?_cons_succ, List.getElem?_drop, show pos L s + 1 + k - 1 = pos L s + k by omega]
theorem ins_pos {L : List PPart} {s : ByteArray} : pos L s < (ins L s).length ∧ (nth (ins L s) (pos L s)).name = s := by
  cases h : hit L s with
  | true =>
    rw [ins_hit h]
    unfold hit at h
    rw [Bool.and_eq_true, decide_eq_true_eq] at h
    exact ⟨h.1, eqs_iff.1 h.2⟩
  | false =>
    refine ⟨by rw [ins_len h]; have := pos_le L s; omega, ?_⟩
    rw [ins_nth h, if_neg (by omega), if_pos rfl]; rfl
theorem ins_rise {L : List PPart} {s : ByteArray} (hL : Rise L) : Rise (ins L s) := by
  cases h : hit L s with
  | true => rw [ins_hit h]; exact hL
  | false =>
    have hge : ∀ t, pos L s ≤ t → t < L.length → lt s (nth L t).name = true := fun t ht htl => by
      have hp : pos L s < L.length := by omega
      have h1 := pos_at hp
      have h2 : lt s (nth L (pos L s)).name = true := by
        cases h3 : lt s (nth L (pos L s)).name with
        | true => rfl
        | false =>
          have := lt_tri h1 h3
          unfold hit at h
          rw [decide_eq_true hp, eqs_iff.2 this] at h; cases h
      rcases Nat.lt_or_eq_of_le ht with h3 | h3
      · exact lt_trans h2 (hL _ _ h3 htl)
      · rw [← h3]; exact h2
    intro i j hij hj
    rw [ins_len h] at hj
    rw [ins_nth h, ins_nth h]
    by_cases hj1 : j < pos L s
    · rw [if_pos (by omega), if_pos hj1]; exact hL i j hij (by have := pos_le L s; omega)
    · rw [if_neg hj1]
      by_cases hj2 : j = pos L s
      · rw [if_pos hj2, if_pos (show i < pos L s by omega)]; exact pos_lt (s := s) (show i < pos L s by omega)
      · rw [if_neg hj2]
        by_cases hi1 : i < pos L s
        · rw [if_pos hi1]; exact lt_trans (pos_lt hi1) (hge (j - 1) (by omega) (by omega))
        · rw [if_neg hi1]
          by_cases hi2 : i = pos L s
          · rw [if_pos hi2]; exact hge (j - 1) (by omega) (by omega)
          · rw [if_neg hi2]; exact hL (i - 1) (j - 1) (by omega) (by omega)
theorem set_rise {L : List PPart} {t : Nat} {p : PPart} (hL : Rise L) (ht : t < L.length) (hp : p.name = (nth L t).name) : Rise (L.set t p) := by
  intro i j hij hj
  rw [List.length_set] at hj
  rw [nth_set ht, nth_set ht]
  have e : ∀ q, (if q = t then p else nth L q).name = (nth L q).name := fun q => by split <;> simp_all
  rw [e, e]; exact hL i j hij hj

/-- A part with the first fields of a seen type behind its own. -/
def partK (p : PPart) (svc : Int) (t : PSeen) (k : Nat) : PPart := ⟨p.name, p.fs ++ (List.range k).map t.F, p.os ++ (List.range k).map (fun j => ⟨svc, t.own, t.O j⟩), p.hs ++ [⟨svc, t.own, ⟨#[]⟩⟩]⟩
def clash (p : PPart) (t : PSeen) (k : Nat) : Bool := (p.fs ++ (List.range k).map t.F).any (fun f => eqs f.name (t.F k).name)
def errP (p : PPart) (t : PSeen) : Int := if (List.range t.nf).any (clash p t) then 6 else 0
/-- A seen type put in. -/
def stepT (svc : Int) (L : List PPart) (t : PSeen) : List PPart := (ins L t.name).set (pos L t.name) (partK (nth (ins L t.name) (pos L t.name)) svc t t.nf)
def errT (L : List PPart) (t : PSeen) : Int := errP (nth (ins L t.name) (pos L t.name)) t
/-- The first types of a service put in. -/
def foldT (svc : Int) (L : List PPart) (S : Nat → PSeen) : Nat → List PPart
  | 0 => L
  | k + 1 => stepT svc (foldT svc L S k) (S k)
def errV (svc : Int) (L : List PPart) (S : Nat → PSeen) (n : Nat) : Int := (fault n (fun k => errT (foldT svc L S k) (S k))).1
/-- The first services put together. -/
def allP (n : Nat → Nat) (S : Nat → Nat → PSeen) : Nat → List PPart
  | 0 => []
  | i + 1 => foldT (i : Int) (allP n S i) (S i) (n i)
def errA (n : Nat → Nat) (S : Nat → Nat → PSeen) (i : Nat) : Int := errV (i : Int) (allP n S i) (S i) (n i)

theorem step_rise {svc : Int} {L : List PPart} {t : PSeen} (h : Rise L) : Rise (stepT svc L t) := set_rise (ins_rise h) ins_pos.1 rfl
theorem fold_rise {svc : Int} {L : List PPart} {S : Nat → PSeen} (h : Rise L) : ∀ k, Rise (foldT svc L S k)
  | 0 => h
  | k + 1 => step_rise (fold_rise h k)
theorem all_rise {n : Nat → Nat} {S : Nat → Nat → PSeen} : ∀ i, Rise (allP n S i)
  | 0 => fun _ _ _ h => by simp [allP] at h
  | i + 1 => fold_rise (all_rise i) _

/-! How many there are at most -/
structure Few (L : List PPart) (k : Nat) : Prop where
  len : L.length ≤ k
  fs : ∀ i, i < L.length → (nth L i).fs.length ≤ 10 * k
  os : ∀ i, i < L.length → (nth L i).os.length ≤ 10 * k
  hs : ∀ i, i < L.length → (nth L i).hs.length ≤ k
theorem Few.ins {L : List PPart} {k : Nat} (h : Few L k) (s : ByteArray) : (ins L s).length ≤ k + 1 ∧ ∀ i, i < (Go.Proofs.Ytjjggefmmeminaa.ins L s).length → (nth (Go.Proofs.Ytjjggefmmeminaa.ins L s) i).fs.length ≤ 10 * k ∧ (nth (Go.Proofs.Ytjjggefmmeminaa.ins L s) i).os.length ≤ 10 * k ∧ (nth (Go.Proofs.Ytjjggefmmeminaa.ins L s) i).hs.length ≤ k := by
  cases hh : hit L s with
  | true => rw [ins_hit hh]; exact ⟨Nat.le_succ_of_le h.len, fun i hi => ⟨h.fs i hi, h.os i hi, h.hs i hi⟩⟩
  | false =>
    rw [ins_len hh]
    refine ⟨Nat.succ_le_succ h.len, fun i hi => ?_⟩
    rw [ins_nth hh]
    by_cases h1 : i < pos L s
    · have := pos_le L s
      rw [if_pos h1]; exact ⟨h.fs i (by omega), h.os i (by omega), h.hs i (by omega)⟩
    · rw [if_neg h1]
      by_cases h2 : i = pos L s
      · rw [if_pos h2]; exact ⟨Nat.zero_le _, Nat.zero_le _, Nat.zero_le _⟩
      · rw [if_neg h2]; exact ⟨h.fs _ (by omega), h.os _ (by omega), h.hs _ (by omega)⟩
theorem Few.step {L : List PPart} {k : Nat} (h : Few L k) {svc : Int} {t : PSeen} (ht : t.nf ≤ 10) : Few (stepT svc L t) (k + 1) := by
  obtain ⟨h1, h2⟩ := h.ins t.name
  have hp := (ins_pos (L := L) (s := t.name)).1
  have hl : (stepT svc L t).length = (Go.Proofs.Ytjjggefmmeminaa.ins L t.name).length := by unfold stepT; rw [List.length_set]
  have hn : ∀ i, i < (stepT svc L t).length → (nth (stepT svc L t) i).fs.length ≤ 10 * (k + 1) ∧ (nth (stepT svc L t) i).os.length ≤ 10 * (k + 1) ∧ (nth (stepT svc L t) i).hs.length ≤ k + 1 := fun i hi => by
    rw [hl] at hi
    obtain ⟨q1, q2, q3⟩ := h2 i hi
    unfold stepT
    rw [nth_set hp]
    by_cases e : i = pos L t.name
    · rw [if_pos e, ← e]
      unfold partK
      simp only [List.length_append, List.length_map, List.length_range, List.length_singleton]
      exact ⟨by omega, by omega, by omega⟩
    · rw [if_neg e]; exact ⟨by omega, by omega, by omega⟩
  exact ⟨by rw [hl]; exact h1, fun i hi => (hn i hi).1, fun i hi => (hn i hi).2.1, fun i hi => (hn i hi).2.2⟩
theorem Few.fold {L : List PPart} {k : Nat} (h : Few L k) {svc : Int} {S : Nat → PSeen} : ∀ j, (∀ q, q < j → (S q).nf ≤ 10) → Few (foldT svc L S j) (k + j)
  | 0, _ => h
  | j + 1, hS => (Few.fold h j (fun q hq => hS q (by omega))).step (hS j (by omega))
theorem Few.mono {L : List PPart} {k k' : Nat} (h : Few L k) (hk : k ≤ k') : Few L k' :=
  ⟨Nat.le_trans h.len hk, fun i hi => Nat.le_trans (h.fs i hi) (by omega), fun i hi => Nat.le_trans (h.os i hi) (by omega), fun i hi => Nat.le_trans (h.hs i hi) hk⟩
theorem few_all {n : Nat → Nat} {S : Nat → Nat → PSeen} : ∀ i, (∀ q, q < i → n q ≤ 8) → (∀ q, q < i → ∀ j, j < n q → (S q j).nf ≤ 10) → Few (allP n S i) (8 * i)
  | 0, _, _ => ⟨Nat.le_refl _, fun i hi => by simp [allP] at hi, fun i hi => by simp [allP] at hi, fun i hi => by simp [allP] at hi⟩
  | i + 1, h1, h2 => ((few_all i (fun q hq => h1 q (by omega)) (fun q hq => h2 q (by omega))).fold (n i) (fun q hq => h2 i (by omega) q hq)).mono (by have := h1 i (by omega); omega)
def mfind (L : List PPart) (name : ByteArray) : Int := idx L.length (fun i => eqs (nth L i).name name)
def fsN (p : PPart) (j : Nat) : LField := p.fs.getD j dF
def osN (p : PPart) (j : Nat) : POwner := p.os.getD j dO
def hsN (p : PPart) (j : Nat) : POwner := p.hs.getD j dO
end Go.Proofs.Ytjjggefmmeminaa
