/-
  What all services' schemas, put together, are: what is wrong, and at which service.
-/
import Derived.Test.YtjjggefmmeminaaMgPlain
import Derived.Test.YtjjggefmmeminaaMtTurn
namespace Go.Proofs.Ytjjggefmmeminaa
open Go.RowKit Go.Sort Go.PlainAid

def ntS (V : Nat → LServ) (j : Nat) : Nat := (V j).nt
def seenA (V : Nat → LServ) (j : Nat) : Nat → PSeen := seenS (V j)
def allF (n : Nat) (V : Nat → LServ) : Int × Int := if (wrongF n V).1 ≠ 0 then wrongF n V else fault n (errA (ntS V) (seenA V))
theorem wrongF_ok {n : Nat} {V : Nat → LServ} (h : (wrongF n V).1 = 0) : n ≤ 5 ∧ ∀ j, j < n → (seeE (V j)).1 = 0 ∧ (wrongThings (V j).nt (V j).T (V j).nx (V j).X).1 = 0 := by
  unfold wrongF at h
  by_cases h5 : 5 < n
  · rw [if_pos h5] at h; exact absurd h (by decide)
  · rw [if_neg h5] at h
    refine ⟨by omega, ?_⟩
    rcases fault_cases n (fun i => wrongServ (V i)) with ⟨-, hall⟩ | ⟨k, hk, e, hne, -⟩
    · intro j hj
      have h1 := hall j hj
      unfold wrongServ at h1
      by_cases h2 : (seeE (V j)).1 ≠ 0
      · rw [if_pos h2] at h1; exact absurd h1 h2
      · rw [if_neg h2] at h1; exact ⟨Decidable.not_not.1 h2, h1⟩
    · rw [e] at h; exact absurd h hne
end Go.Proofs.Ytjjggefmmeminaa
