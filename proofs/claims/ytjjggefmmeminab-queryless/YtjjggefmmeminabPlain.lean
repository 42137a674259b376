/-
  Plain mathematics that the walks over package schema lean on: first indices. It imports nothing of the program.
-/
namespace Go.Proofs.Ytjjggefmmeminab

/-- The first number below n that fits, or -1. -/
def idx (n : Nat) (p : Nat → Bool) : Int := match (List.range n).find? p with | some i => (i : Int) | none => -1

theorem find_range_some {n : Nat} {p : Nat → Bool} {k : Nat} (hk : k < n) (hp : p k = true) (hb : ∀ j, j < k → p j = false) : (List.range n).find? p = some k := by
  rw [List.find?_range_eq_some]
  exact ⟨hp, by simpa using hk, fun j hj => by simp [hb j hj]⟩
theorem find_range_none {n : Nat} {p : Nat → Bool} (hb : ∀ j, j < n → p j = false) : (List.range n).find? p = none := by
  rw [List.find?_eq_none]
  intro j hj
  simp [hb j (by simpa using hj)]
theorem idx_hit {n : Nat} {p : Nat → Bool} {k : Nat} (hk : k < n) (hp : p k = true) (hb : ∀ j, j < k → p j = false) : idx n p = (k : Int) := by
  unfold idx; rw [find_range_some hk hp hb]
theorem idx_none {n : Nat} {p : Nat → Bool} (hb : ∀ j, j < n → p j = false) : idx n p = -1 := by
  unfold idx; rw [find_range_none hb]
theorem idx_cases (n : Nat) (p : Nat → Bool) : (idx n p = -1 ∧ ∀ j, j < n → p j = false) ∨ ∃ k : Nat, k < n ∧ idx n p = (k : Int) ∧ p k = true ∧ ∀ j, j < k → p j = false := by
  cases h : (List.range n).find? p with
  | none =>
    left
    rw [List.find?_eq_none] at h
    refine ⟨by unfold idx; simp [List.find?_eq_none.2 h], fun j hj => ?_⟩
    have := h j (by simpa using hj)
    simpa using this
  | some k =>
    right
    have h' := h
    rw [List.find?_range_eq_some] at h'
    obtain ⟨h1, h2, h3⟩ := h'
    refine ⟨k, by simpa using h2, by unfold idx; rw [h], h1, fun j hj => ?_⟩
    have := h3 j hj
    simpa using this
theorem idx_lo (n : Nat) (p : Nat → Bool) : -1 ≤ idx n p := by
  rcases idx_cases n p with ⟨h, _⟩ | ⟨k, _, h, _⟩ <;> rw [h] <;> omega
theorem idx_hi (n : Nat) (p : Nat → Bool) : idx n p ≤ n := by
  rcases idx_cases n p with ⟨h, _⟩ | ⟨k, hk, h, _⟩ <;> rw [h] <;> omega

/-- The first error that g tells of the numbers below n, and at which; 0 and 0, if it tells none. -/
def fault (n : Nat) (g : Nat → Int) : Int × Int := match (List.range n).find? (fun i => g i != 0) with | some i => (g i, (i : Int)) | none => (0, 0)
theorem fault_hit {n : Nat} {g : Nat → Int} {k : Nat} (hk : k < n) (hp : g k ≠ 0) (hb : ∀ j, j < k → g j = 0) : fault n g = (g k, (k : Int)) := by
  unfold fault; rw [find_range_some hk (by simpa using hp) (fun j hj => by simp [hb j hj])]
theorem fault_none {n : Nat} {g : Nat → Int} (hb : ∀ j, j < n → g j = 0) : fault n g = (0, 0) := by
  unfold fault; rw [find_range_none (fun j hj => by simp [hb j hj])]
theorem fault_cases (n : Nat) (g : Nat → Int) : (fault n g = (0, 0) ∧ ∀ j, j < n → g j = 0) ∨ ∃ k : Nat, k < n ∧ fault n g = (g k, (k : Int)) ∧ g k ≠ 0 ∧ ∀ j, j < k → g j = 0 := by
  rcases idx_cases n (fun i => g i != 0) with ⟨_, h⟩ | ⟨k, hk, _, h1, h2⟩
  · left
    have h' : ∀ j, j < n → g j = 0 := fun j hj => by simpa using h j hj
    exact ⟨fault_none h', h'⟩
  · right
    have h1' : g k ≠ 0 := by simpa using h1
    have h2' : ∀ j, j < k → g j = 0 := fun j hj => by simpa using h2 j hj
    exact ⟨k, hk, fault_hit hk h1' h2', h1', h2'⟩
theorem fault_congr {n : Nat} {g h : Nat → Int} (e : ∀ j, j < n → g j = h j) : fault n g = fault n h := by
  rcases fault_cases n h with ⟨e1, e2⟩ | ⟨k, hk, e1, e2, e3⟩
  · rw [e1]; exact fault_none fun j hj => (e j hj).trans (e2 j hj)
  · rw [e1, ← e k hk]; exact fault_hit hk (by rw [e k hk]; exact e2) fun j hj => (e j (by omega)).trans (e3 j hj)
theorem idx_congr {n : Nat} {p q : Nat → Bool} (e : ∀ j, j < n → p j = q j) : idx n p = idx n q := by
  rcases idx_cases n q with ⟨e1, e2⟩ | ⟨k, hk, e1, e2, e3⟩
  · rw [e1]; exact idx_none fun j hj => (e j hj).trans (e2 j hj)
  · rw [e1]; exact idx_hit hk ((e k hk).trans e2) fun j hj => (e j (by omega)).trans (e3 j hj)
end Go.Proofs.Ytjjggefmmeminab
