/-
  Plain: with a type more behind, of a new name, without fields, what is right stays right.
-/
import Derived.Test.YtjjggefmmeminabThings
import Derived.Test.YtjjggefmmeminabMoreIdx
namespace Go.Proofs.Ytjjggefmmeminab

/-- A type more. -/
def more (n : Nat) (T : Nat → LType) (name : ByteArray) (i : Nat) : LType := if i < n then T i else ⟨name, none, 0, 0, fun _ => ⟨ByteArray.empty, 0, ByteArray.empty⟩⟩
theorem more_lt {n i : Nat} {T : Nat → LType} {name : ByteArray} (h : i < n) : more n T name i = T i := by unfold more; rw [if_pos h]
theorem more_name {n : Nat} {T : Nat → LType} {name : ByteArray} : (more n T name n).name = name := by unfold more; rw [if_neg (Nat.lt_irrefl _)]
theorem more_nf {n : Nat} {T : Nat → LType} {name : ByteArray} : (more n T name n).nf = 0 := by unfold more; rw [if_neg (Nat.lt_irrefl _)]
theorem find_more {n i : Nat} {T : Nat → LType} {name s : ByteArray} (h : i ≤ n) : find i (more n T name) s = find i T s := by
  unfold find; exact idx_congr fun j hj => by rw [more_lt (by omega)]
theorem find_more_new {n : Nat} {T : Nat → LType} {name : ByteArray} (h : find n T name < 0) : find (n + 1) (more n T name) name = (n : Int) := by
  unfold find at *
  rw [idx_neg] at h
  refine idx_hit (Nat.lt_succ_self n) (by rw [more_name]; exact eqs_iff.2 rfl) fun j hj => ?_
  rw [more_lt hj]; exact h j hj
theorem find_more_old {n : Nat} {T : Nat → LType} {name s : ByteArray} (h : 0 ≤ find n T s) : find (n + 1) (more n T name) s = find n T s := by
  unfold find at *
  rcases idx_cases n (fun i => eqs (T i).name s) with ⟨e, _⟩ | ⟨k, hk, e, h1, h2⟩
  · omega
  · rw [e]
    exact idx_hit (Nat.lt_succ_of_lt hk) (by rw [more_lt hk]; exact h1) fun j hj => by rw [more_lt (by omega)]; exact h2 j hj

theorem fit_more {k : Int} {ty : ByteArray} {f f' : Int} (h : fitOf k ty f = 0) (hf : 0 ≤ f → 0 ≤ f') : fitOf k ty f' = 0 := by
  unfold fitOf at *
  by_cases h1 : k = 1
  · rw [if_pos h1] at *; exact h
  · rw [if_neg h1] at *
    by_cases h2 : k = 2 ∨ k = 3
    · rw [if_pos h2] at *
      by_cases h3 : f < 0
      · rw [if_pos h3] at h; omega
      · rw [if_neg (by have := hf (by omega); omega)]
    · rw [if_neg h2] at *; exact h

theorem field_more {n i : Nat} {T : Nat → LType} {F : Nat → LField} {name : ByteArray} (h : wrongField n T F i = 0) : wrongField (n + 1) (more n T name) F i = 0 := by
  unfold wrongField at *
  by_cases h1 : (!named (F i).name || decide (0 ≤ fieldIdx i F (F i).name)) = true
  · rw [if_pos h1] at h; omega
  · rw [if_neg h1] at *
    exact fit_more h fun hf => by rw [find_more_old hf]; exact hf
theorem fields_more {n nf : Nat} {T : Nat → LType} {F : Nat → LField} {name : ByteArray} (h : wrongFields n T nf F = 0) : wrongFields (n + 1) (more n T name) nf F = 0 := by
  unfold wrongFields at *
  by_cases h1 : 10 < nf
  · rw [if_pos h1] at h; omega
  · rw [if_neg h1] at *
    rw [fault_zero] at *
    exact fun j hj => field_more (h j hj)

theorem right_parts {n : Nat} {T : Nat → LType} : (wrongS n T).1 = 0 ↔ n ≤ 8 ∧ (∀ i, i < n → wrongTypeName T i = 0) ∧ ∀ i, i < n → wrongFields n T (T i).nf (T i).F = 0 := by
  unfold wrongS
  by_cases h1 : 8 < n
  · rw [if_pos h1]
    exact ⟨fun h => by simp at h, fun h => by omega⟩
  · rw [if_neg h1]
    by_cases h2 : (fault n (wrongTypeName T)).1 ≠ 0
    · rw [if_pos h2]
      exact ⟨fun h => absurd h h2, fun h => absurd (fault_zero.2 h.2.1) h2⟩
    · rw [if_neg h2, fault_zero]
      have h2' := fault_zero.1 (Decidable.not_not.1 h2)
      exact ⟨fun h => ⟨by omega, h2', h⟩, fun h => h.2.2⟩

theorem right_more {n : Nat} {T : Nat → LType} {name : ByteArray} (h : (wrongS n T).1 = 0) (hn : n < 8) (hm : named name = true) (hf : find n T name < 0) : (wrongS (n + 1) (more n T name)).1 = 0 := by
  rw [right_parts] at *
  obtain ⟨-, h1, h2⟩ := h
  refine ⟨by omega, fun i hi => ?_, fun i hi => ?_⟩
  · by_cases hin : i < n
    · have := h1 i hin
      unfold wrongTypeName at *
      rw [find_more (by omega), more_lt hin]; exact this
    · have e : i = n := by omega
      subst e
      unfold wrongTypeName
      rw [find_more (Nat.le_refl _), more_name]
      simp [hm, hf]
  · by_cases hin : i < n
    · rw [more_lt hin]; exact fields_more (h2 i hin)
    · have e : i = n := by omega
      subst e
      unfold wrongFields
      rw [more_nf, if_neg (by decide)]
      exact fault_zero.2 fun j hj => absurd hj (Nat.not_lt_zero _)

theorem thing_more {n i : Nat} {T : Nat → LType} {X : Nat → LThing} {name : ByteArray} (h : wrongThing n T X i = 0) : wrongThing (n + 1) (more n T name) X i = 0 := by
  unfold wrongThing at *
  by_cases h1 : find n T (X i).type < 0
  · rw [if_pos h1] at h; omega
  · have hlt : (find n T (X i).type).toNat < n := by
      rcases idx_cases n (fun j => eqs (T j).name (X i).type) with ⟨e, _⟩ | ⟨k, hk, e, _⟩
      · exact absurd (show find n T (X i).type < 0 by unfold find; omega) h1
      · unfold find; rw [e]; simpa using hk
    rw [find_more_old (by omega), more_lt hlt]
    exact h
theorem things_more {n m : Nat} {T : Nat → LType} {X : Nat → LThing} {name : ByteArray} (h : (wrongThings n T m X).1 = 0) : (wrongThings (n + 1) (more n T name) m X).1 = 0 := by
  unfold wrongThings at *
  by_cases h1 : 60 < m
  · rw [if_pos h1] at h; simp at h
  · rw [if_neg h1] at *
    rw [fault_zero] at *
    exact fun j hj => thing_more (h j hj)
end Go.Proofs.Ytjjggefmmeminab
