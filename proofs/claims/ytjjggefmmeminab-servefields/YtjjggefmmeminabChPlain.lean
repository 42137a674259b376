/-
  Plain: what changes make of what is seen; what is seen is right; one part behind the other; called so, and back.
-/
import Derived.Test.YtjjggefmmeminabChCall
import Derived.Test.YtjjggefmmeminabMorePlain
namespace Go.Proofs.Ytjjggefmmeminab
open Go.RowKit Go.Sort

structure PChange where
  kind : Int
  type : ByteArray
  field : ByteArray
  to : ByteArray

def callT (S : Nat → PSeen) (t : Nat) (to : ByteArray) : Nat → PSeen := fun i => { S i with name := if i = t then to else (S i).name, F := fun j => retype (S t).name to ((S i).F j) }
def callF (S : Nat → PSeen) (t f : Nat) (to : ByteArray) : Nat → PSeen := fun i => { S i with F := if i = t then (fun j => if j = f then { (S t).F j with name := to } else (S t).F j) else (S i).F }
def skip (f j : Nat) : Nat := if j < f then j else j + 1
def hideF (S : Nat → PSeen) (t f : Nat) : Nat → PSeen := fun i => if i = t then { S t with nf := (S t).nf - 1, F := fun j => (S t).F (skip f j), O := fun j => (S t).O (skip f j) } else S i

def callTS (n : Nat) (S : Nat → PSeen) (t : Nat) (to : ByteArray) : Int × (Nat → PSeen) := if !named to || decide (0 ≤ pfind n S to) then (6, S) else (0, callT S t to)
def callFS (S : Nat → PSeen) (t f : Nat) (to : ByteArray) : Int × (Nat → PSeen) := if !named to || decide (0 ≤ fieldIdx (S t).nf (S t).F to) then (6, S) else (0, callF S t f to)
def fieldS (S : Nat → PSeen) (t : Nat) (c : PChange) : Int × (Nat → PSeen) :=
  if fieldIdx (S t).nf (S t).F c.field < 0 then (5, S) else if c.kind = 2 then callFS S t (fieldIdx (S t).nf (S t).F c.field).toNat c.to else (0, hideF S t (fieldIdx (S t).nf (S t).F c.field).toNat)
/-- One change: what is wrong with it, and what is seen then. -/
def appS (n : Nat) (S : Nat → PSeen) (c : PChange) : Int × (Nat → PSeen) :=
  if c.kind ≠ 1 ∧ c.kind ≠ 2 ∧ c.kind ≠ 3 then (1, S) else if pfind n S c.type < 0 then (5, S) else if c.kind = 1 then callTS n S (pfind n S c.type).toNat c.to else fieldS S (pfind n S c.type).toNat c
/-- What is seen behind the first k changes. -/
def runS (n : Nat) (S : Nat → PSeen) (C : Nat → PChange) : Nat → (Nat → PSeen)
  | 0 => S
  | k + 1 => (appS n (runS n S C k) (C k)).2
def errS (n : Nat) (S : Nat → PSeen) (C : Nat → PChange) (k : Nat) : Int := (appS n (runS n S C k) (C k)).1
def initS (T : Nat → LType) : Nat → PSeen := fun i => ⟨(T i).name, (T i).nf, (T i).F, (T i).name, fun j => ((T i).F j).name⟩
def seeF (n : Nat) (T : Nat → LType) (m : Nat) (C : Nat → PChange) : Int × Int := if (wrongS n T).1 ≠ 0 then wrongS n T else if 12 < m then (4, 0) else fault m (errS n (initS T) C)

/-! What is right -/
def Fits (n : Nat) (N : Nat → ByteArray) (f : LField) : Prop := (f.kind = 1 ∧ f.type.size = 0) ∨ ((f.kind = 2 ∨ f.kind = 3) ∧ ∃ i, i < n ∧ N i = f.type)
structure RightF (n : Nat) (N : Nat → ByteArray) (nf : Nat) (F : Nat → LField) : Prop where
  few : nf ≤ 10
  nam : ∀ j, j < nf → named (F j).name = true
  one : ∀ i j, i < j → j < nf → (F i).name ≠ (F j).name
  fit : ∀ j, j < nf → Fits n N (F j)
structure RightQ (n : Nat) (N : Nat → ByteArray) (nf : Nat → Nat) (F : Nat → Nat → LField) : Prop where
  few : n ≤ 8
  nam : ∀ i, i < n → named (N i) = true
  one : ∀ i j, i < j → j < n → N i ≠ N j
  fld : ∀ i, i < n → RightF n N (nf i) (F i)

theorem eqs_false {a b : ByteArray} : eqs a b = false ↔ a ≠ b := by
  rw [← Bool.not_eq_true, eqs_iff]

theorem typeName_zero {T : Nat → LType} {i : Nat} : wrongTypeName T i = 0 ↔ named (T i).name = true ∧ ∀ j, j < i → (T j).name ≠ (T i).name := by
  unfold wrongTypeName find
  have h2 : (0 ≤ idx i (fun j => eqs (T j).name (T i).name)) ↔ ¬ ∀ j, j < i → (T j).name ≠ (T i).name := by
    constructor
    · intro h hh
      have : idx i (fun j => eqs (T j).name (T i).name) < 0 := idx_neg.2 fun j hj => eqs_false.2 (hh j hj)
      omega
    · intro h
      by_cases h0 : idx i (fun j => eqs (T j).name (T i).name) < 0
      · exact absurd (fun j hj => eqs_false.1 (idx_neg.1 h0 j hj)) h
      · omega
  cases h1 : named (T i).name
  · simp
  · by_cases h0 : 0 ≤ idx i (fun j => eqs (T j).name (T i).name)
    · simp only [h0]
      constructor
      · intro h; simp at h
      · intro h; exact absurd h.2 (h2.1 h0)
    · simp only [h0]
      constructor
      · intro _; exact ⟨trivial, Classical.byContradiction fun hh => h0 (h2.2 hh)⟩
      · intro _; simp
theorem fit_zero {n : Nat} {T : Nat → LType} {f : LField} : fitOf f.kind f.type (find n T f.type) = 0 ↔ Fits n (fun i => (T i).name) f := by
  have hf : ¬ find n T f.type < 0 ↔ ∃ i, i < n ∧ (T i).name = f.type := by
    unfold find
    rcases idx_cases n (fun i => eqs (T i).name f.type) with ⟨e, h⟩ | ⟨k, hk, e, h1, h2⟩
    · rw [e]
      exact ⟨fun h0 => absurd (by decide) h0, fun ⟨i, hi, he⟩ => absurd he (eqs_false.1 (h i hi))⟩
    · rw [e]
      exact ⟨fun _ => ⟨k, hk, eqs_iff.1 h1⟩, fun _ => by omega⟩
  unfold fitOf Fits
  by_cases h1 : f.kind = 1
  · rw [if_pos h1]
    by_cases h2 : f.type.size = 0
    · rw [if_pos h2]; exact ⟨fun _ => .inl ⟨h1, h2⟩, fun _ => rfl⟩
    · rw [if_neg h2]
      exact ⟨fun h => by simp at h, fun h => by rcases h with ⟨_, h⟩ | ⟨h, _⟩ <;> omega⟩
  · rw [if_neg h1]
    by_cases h2 : f.kind = 2 ∨ f.kind = 3
    · rw [if_pos h2]
      by_cases h3 : find n T f.type < 0
      · rw [if_pos h3]
        exact ⟨fun h => by simp at h, fun h => by
          rcases h with ⟨h, _⟩ | ⟨_, h⟩
          · exact absurd h h1
          · exact absurd h3 (hf.2 h)⟩
      · rw [if_neg h3]
        exact ⟨fun _ => .inr ⟨h2, hf.1 h3⟩, fun _ => rfl⟩
    · rw [if_neg h2]
      exact ⟨fun h => by simp at h, fun h => by
        rcases h with ⟨h, _⟩ | ⟨h, _⟩
        · exact absurd h h1
        · exact absurd h h2⟩
theorem field_zero {n : Nat} {T : Nat → LType} {F : Nat → LField} {j : Nat} : wrongField n T F j = 0 ↔ named (F j).name = true ∧ (∀ i, i < j → (F i).name ≠ (F j).name) ∧ Fits n (fun i => (T i).name) (F j) := by
  unfold wrongField fieldIdx
  have h2 : (0 ≤ idx j (fun i => eqs (F i).name (F j).name)) ↔ ¬ ∀ i, i < j → (F i).name ≠ (F j).name := by
    constructor
    · intro h hh
      have : idx j (fun i => eqs (F i).name (F j).name) < 0 := idx_neg.2 fun i hi => eqs_false.2 (hh i hi)
      omega
    · intro h
      by_cases h0 : idx j (fun i => eqs (F i).name (F j).name) < 0
      · exact absurd (fun i hi => eqs_false.1 (idx_neg.1 h0 i hi)) h
      · omega
  cases h1 : named (F j).name
  · simp
  · by_cases h0 : 0 ≤ idx j (fun i => eqs (F i).name (F j).name)
    · simp only [h0]
      constructor
      · intro h; simp at h
      · intro h; exact absurd h.2.1 (h2.1 h0)
    · simp only [h0]
      have h3 : ∀ i, i < j → (F i).name ≠ (F j).name := Classical.byContradiction fun hh => h0 (h2.2 hh)
      constructor
      · intro h; exact ⟨trivial, h3, fit_zero.1 (by simpa using h)⟩
      · intro h; have := fit_zero.2 h.2.2; simpa using this
theorem fields_zero {n nf : Nat} {T : Nat → LType} {F : Nat → LField} : wrongFields n T nf F = 0 ↔ RightF n (fun i => (T i).name) nf F := by
  unfold wrongFields
  by_cases h1 : 10 < nf
  · rw [if_pos h1]
    exact ⟨fun h => by simp at h, fun h => by have := h.few; omega⟩
  · rw [if_neg h1, fault_zero]
    constructor
    · intro h
      exact ⟨by omega, fun j hj => (field_zero.1 (h j hj)).1, fun i j hij hj => (field_zero.1 (h j hj)).2.1 i hij, fun j hj => (field_zero.1 (h j hj)).2.2⟩
    · intro h j hj
      exact field_zero.2 ⟨h.nam j hj, fun i hij => h.one i j hij hj, h.fit j hj⟩
theorem right_iff {n : Nat} {T : Nat → LType} : (wrongS n T).1 = 0 ↔ RightQ n (fun i => (T i).name) (fun i => (T i).nf) (fun i => (T i).F) := by
  rw [right_parts]
  constructor
  · rintro ⟨h1, h2, h3⟩
    exact ⟨h1, fun i hi => (typeName_zero.1 (h2 i hi)).1, fun i j hij hj => (typeName_zero.1 (h2 j hj)).2 i hij, fun i hi => fields_zero.1 (h3 i hi)⟩
  · intro h
    exact ⟨h.few, fun i hi => typeName_zero.2 ⟨h.nam i hi, fun j hj => h.one j i hj hi⟩, fun i hi => fields_zero.2 (h.fld i hi)⟩

def RightS (n : Nat) (S : Nat → PSeen) : Prop := RightQ n (fun i => (S i).name) (fun i => (S i).nf) (fun i => (S i).F)

theorem RightQ.ne {n : Nat} {N : Nat → ByteArray} {nf : Nat → Nat} {F : Nat → Nat → LField} (h : RightQ n N nf F) {i j : Nat} (hi : i < n) (hj : j < n) (hij : i ≠ j) : N i ≠ N j := by
  rcases Nat.lt_or_gt_of_ne hij with h1 | h1
  · exact h.one i j h1 hj
  · exact (h.one j i h1 hi).symm
theorem RightF.ne {n nf : Nat} {N : Nat → ByteArray} {F : Nat → LField} (h : RightF n N nf F) {i j : Nat} (hi : i < nf) (hj : j < nf) (hij : i ≠ j) : (F i).name ≠ (F j).name := by
  rcases Nat.lt_or_gt_of_ne hij with h1 | h1
  · exact h.one i j h1 hj
  · exact (h.one j i h1 hi).symm
theorem named_pos {s : ByteArray} (h : named s = true) : s.size ≠ 0 := by
  intro h0
  unfold named at h
  simp [h0] at h

theorem pfind_hit {n : Nat} {S : Nat → PSeen} {name : ByteArray} (h : ¬ pfind n S name < 0) : (pfind n S name).toNat < n ∧ (S (pfind n S name).toNat).name = name ∧ pfind n S name = ((pfind n S name).toNat : Int) := by
  unfold pfind at *
  rcases idx_cases n (fun i => eqs (S i).name name) with ⟨e, _⟩ | ⟨k, hk, e, h1, _⟩
  · rw [e] at h; omega
  · rw [e]; exact ⟨by simpa using hk, by simpa using eqs_iff.1 h1, by simp⟩
theorem pfind_miss {n : Nat} {S : Nat → PSeen} {name : ByteArray} (h : ¬ 0 ≤ pfind n S name) : ∀ i, i < n → (S i).name ≠ name := fun i hi => eqs_false.1 (idx_neg.1 (show idx n (fun i => eqs (S i).name name) < 0 by unfold pfind at h; omega) i hi)
theorem pfind_none {n : Nat} {S : Nat → PSeen} {name : ByteArray} (h : ∀ i, i < n → (S i).name ≠ name) : pfind n S name < 0 := idx_neg.2 fun i hi => eqs_false.2 (h i hi)
theorem fidx_hit {n : Nat} {F : Nat → LField} {name : ByteArray} (h : ¬ fieldIdx n F name < 0) : (fieldIdx n F name).toNat < n ∧ (F (fieldIdx n F name).toNat).name = name ∧ fieldIdx n F name = ((fieldIdx n F name).toNat : Int) := by
  unfold fieldIdx at *
  rcases idx_cases n (fun i => eqs (F i).name name) with ⟨e, _⟩ | ⟨k, hk, e, h1, _⟩
  · rw [e] at h; omega
  · rw [e]; exact ⟨by simpa using hk, by simpa using eqs_iff.1 h1, by simp⟩
theorem fidx_miss {n : Nat} {F : Nat → LField} {name : ByteArray} (h : ¬ 0 ≤ fieldIdx n F name) : ∀ i, i < n → (F i).name ≠ name := fun i hi => eqs_false.1 (idx_neg.1 (show idx n (fun i => eqs (F i).name name) < 0 by unfold fieldIdx at h; omega) i hi)
theorem fidx_none {n : Nat} {F : Nat → LField} {name : ByteArray} (h : ∀ i, i < n → (F i).name ≠ name) : fieldIdx n F name < 0 := idx_neg.2 fun i hi => eqs_false.2 (h i hi)
theorem pfind_one {n t : Nat} {S : Nat → PSeen} {name : ByteArray} (ht : t < n) (h : (S t).name = name) (hne : ∀ i, i < n → i ≠ t → (S i).name ≠ name) : pfind n S name = (t : Int) :=
  idx_hit ht (eqs_iff.2 h) fun j hj => eqs_false.2 (hne j (by omega) (by omega))
theorem fidx_one {n t : Nat} {F : Nat → LField} {name : ByteArray} (ht : t < n) (h : (F t).name = name) (hne : ∀ i, i < n → i ≠ t → (F i).name ≠ name) : fieldIdx n F name = (t : Int) :=
  idx_hit ht (eqs_iff.2 h) fun j hj => eqs_false.2 (hne j (by omega) (by omega))

theorem right_callT {n t : Nat} {S : Nat → PSeen} {to : ByteArray} (h : RightS n S) (ht : t < n) (hn : named to = true) (hm : ∀ i, i < n → (S i).name ≠ to) : RightS n (callT S t to) := by
  refine ⟨h.few, fun i hi => ?_, fun i j hij hj => ?_, fun i hi => ?_⟩
  · show named (if i = t then to else (S i).name) = true
    by_cases hit : i = t
    · rw [if_pos hit]; exact hn
    · rw [if_neg hit]; exact h.nam i hi
  · show (if i = t then to else (S i).name) ≠ (if j = t then to else (S j).name)
    by_cases hit : i = t
    · rw [if_pos hit, if_neg (by omega)]; exact (hm j hj).symm
    · rw [if_neg hit]
      by_cases hjt : j = t
      · rw [if_pos hjt]; exact hm i (by omega)
      · rw [if_neg hjt]; exact h.one i j hij hj
  · have hf := h.fld i hi
    have hname : ∀ f : LField, (retype (S t).name to f).name = f.name := fun f => by unfold retype; split <;> rfl
    refine ⟨hf.few, fun j hj => ?_, fun a b hab hb => ?_, fun j hj => ?_⟩
    · show named (retype (S t).name to ((S i).F j)).name = true
      rw [hname]; exact hf.nam j hj
    · show (retype (S t).name to ((S i).F a)).name ≠ (retype (S t).name to ((S i).F b)).name
      rw [hname, hname]; exact hf.one a b hab hb
    · show Fits n (fun i => if i = t then to else (S i).name) (retype (S t).name to ((S i).F j))
      have hfit := hf.fit j hj
      unfold retype
      by_cases he : eqs ((S i).F j).type (S t).name = true
      · rw [if_pos he]
        have he' := eqs_iff.1 he
        rcases hfit with ⟨-, h2⟩ | ⟨h1, -⟩
        · exact absurd h2 (by rw [he']; exact named_pos (h.nam t ht))
        · exact .inr ⟨h1, t, ht, by simp⟩
      · rw [if_neg he]
        rcases hfit with h1 | ⟨h1, k, hk, h2⟩
        · exact .inl h1
        · refine .inr ⟨h1, k, hk, ?_⟩
          show (if k = t then to else (S k).name) = _
          rw [if_neg (fun e => he (eqs_iff.2 (by rw [← h2]; show (S k).name = _; rw [e])))]
          exact h2
theorem right_callF {n t f : Nat} {S : Nat → PSeen} {to : ByteArray} (h : RightS n S) (ht : t < n) (hn : named to = true) (hm : ∀ j, j < (S t).nf → ((S t).F j).name ≠ to) : RightS n (callF S t f to) := by
  refine ⟨h.few, h.nam, h.one, fun i hi => ?_⟩
  show RightF n (fun i => (S i).name) (S i).nf (if i = t then (fun j => if j = f then { (S t).F j with name := to } else (S t).F j) else (S i).F)
  by_cases hit : i = t
  · subst hit
    rw [if_pos rfl]
    have hf := h.fld i hi
    refine ⟨hf.few, fun j hj => ?_, fun a b hab hb => ?_, fun j hj => ?_⟩
    · show named (if j = f then { (S i).F j with name := to } else (S i).F j).name = true
      by_cases hjf : j = f
      · rw [if_pos hjf]; exact hn
      · rw [if_neg hjf]; exact hf.nam j hj
    · show (if a = f then { (S i).F a with name := to } else (S i).F a).name ≠ (if b = f then { (S i).F b with name := to } else (S i).F b).name
      by_cases ha : a = f
      · rw [if_pos ha, if_neg (by omega)]; exact (hm b hb).symm
      · rw [if_neg ha]
        by_cases hbf : b = f
        · rw [if_pos hbf]; exact hm a (by omega)
        · rw [if_neg hbf]; exact hf.one a b hab hb
    · show Fits n (fun i => (S i).name) (if j = f then { (S i).F j with name := to } else (S i).F j)
      have := hf.fit j hj
      by_cases hjf : j = f
      · rw [if_pos hjf]; exact this
      · rw [if_neg hjf]; exact this
  · rw [if_neg hit]; exact h.fld i hi
theorem right_hide {n t f : Nat} {S : Nat → PSeen} (h : RightS n S) (ht : t < n) (hf : f < (S t).nf) : RightS n (hideF S t f) := by
  have hname : (fun i => (hideF S t f i).name) = fun i => (S i).name := by
    funext i; unfold hideF; split
    · subst i; rfl
    · rfl
  have hsk : ∀ j, j < (S t).nf - 1 → skip f j < (S t).nf := fun j hj => by unfold skip; split <;> omega
  unfold RightS
  rw [hname]
  refine ⟨h.few, h.nam, h.one, fun i hi => ?_⟩
  by_cases hit : i = t
  · subst hit
    have hF := h.fld i hi
    have e1 : (hideF S i f i).nf = (S i).nf - 1 := by unfold hideF; rw [if_pos rfl]
    have e2 : (hideF S i f i).F = fun j => (S i).F (skip f j) := by unfold hideF; rw [if_pos rfl]
    rw [e1, e2]
    have hfew := hF.few
    refine ⟨by omega, fun j hj => hF.nam _ (hsk j hj), fun a b hab hb => hF.one _ _ (by unfold skip; split <;> split <;> omega) (hsk b hb), fun j hj => hF.fit _ (hsk j hj)⟩
  · have e : hideF S t f i = S i := by unfold hideF; rw [if_neg hit]
    rw [e]; exact h.fld i hi

theorem right_app {n : Nat} {S : Nat → PSeen} {c : PChange} (h : RightS n S) : RightS n (appS n S c).2 := by
  unfold appS
  split
  · exact h
  split
  · exact h
  · rename_i h1
    obtain ⟨q1, q2, q3⟩ := pfind_hit h1
    split
    · unfold callTS
      split
      · exact h
      · rename_i h3
        simp at h3
        exact right_callT h q1 h3.1 (pfind_miss (by omega))
    · unfold fieldS
      split
      · exact h
      · rename_i h4
        obtain ⟨r1, r2, r3⟩ := fidx_hit h4
        split
        · unfold callFS
          split
          · exact h
          · rename_i h5
            simp at h5
            exact right_callF h q1 h5.1 (fidx_miss (by omega))
        · exact right_hide h q1 r1
theorem right_run {n : Nat} {S : Nat → PSeen} {C : Nat → PChange} (h : RightS n S) : ∀ k, RightS n (runS n S C k)
  | 0 => h
  | k + 1 => right_app (right_run h k)
end Go.Proofs.Ytjjggefmmeminab
