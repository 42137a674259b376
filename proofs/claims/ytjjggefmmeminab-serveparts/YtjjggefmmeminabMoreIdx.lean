/-
  Plain: first indices, more of them.
-/
import Derived.Test.YtjjggefmmeminabPlain
namespace Go.Proofs.Ytjjggefmmeminab

theorem fault_zero {n : Nat} {g : Nat → Int} : (fault n g).1 = 0 ↔ ∀ j, j < n → g j = 0 := by
  rcases fault_cases n g with ⟨e, h⟩ | ⟨k, hk, e, h1, h2⟩
  · rw [e]; exact ⟨fun _ => h, fun _ => rfl⟩
  · rw [e]
    exact ⟨fun h => absurd h h1, fun h => h k hk⟩
theorem idx_neg {n : Nat} {p : Nat → Bool} : idx n p < 0 ↔ ∀ j, j < n → p j = false := by
  rcases idx_cases n p with ⟨e, h⟩ | ⟨k, hk, e, h1, h2⟩
  · rw [e]; exact ⟨fun _ => h, fun _ => by decide⟩
  · rw [e]
    exact ⟨fun h => by omega, fun h => by rw [h k hk] at h1; cases h1⟩

end Go.Proofs.Ytjjggefmmeminab
