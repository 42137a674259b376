/-
  Small things that many texts need: a block that stands is kept; what lies in it; a schema that is seen is right.
-/
import Derived.Test.YtjjggefmmeminaaChPlain
namespace Go.Proofs.Ytjjggefmmeminaa
open Go.RowKit Go.Sort

theorem blk_news {w : World} {b t : Nat} {cs : Array Value} (h : w.heap[b]? = some (.cells cs t (0, 0))) : ∀ ad, some (⟨b, 0, none⟩ : Addr) = some ad → ∀ j u, cs.toList[j]? = some u → w.cell? (ad.add j) = some u := by
  intro ad had j u hu
  cases had
  rw [WideShapes.add_plain]
  simp [World.cell?, h]
  simpa using hu
theorem blk_kept {w w' : World} (hb : Below w.heap.size w w') {k : Nat} {o : Obj} (h : w.heap[k]? = some o) : w'.heap[k]? = some o := (hb.block k (lt_of_block h)).trans h
theorem seeF_right {n m : Nat} {T : Nat → LType} {C : Nat → PChange} (h : (seeF n T m C).1 = 0) : RightS n (initS T) := by
  unfold seeF at h
  by_cases h1 : (wrongS n T).1 ≠ 0
  · rw [if_pos h1] at h; exact absurd h h1
  · exact right_iff.1 (Decidable.not_not.1 h1)
theorem app_own {n : Nat} {S : Nat → PSeen} {c : PChange} (i : Nat) : ((appS n S c).2 i).own = (S i).own ∧ ((appS n S c).2 i).nf ≤ (S i).nf := by
  unfold appS
  split
  · exact ⟨rfl, Nat.le_refl _⟩
  split
  · exact ⟨rfl, Nat.le_refl _⟩
  split
  · unfold callTS
    split
    · exact ⟨rfl, Nat.le_refl _⟩
    · exact ⟨rfl, Nat.le_refl _⟩
  · unfold fieldS
    split
    · exact ⟨rfl, Nat.le_refl _⟩
    split
    · unfold callFS
      split
      · exact ⟨rfl, Nat.le_refl _⟩
      · exact ⟨rfl, Nat.le_refl _⟩
    · show (hideF S _ _ i).own = _ ∧ (hideF S _ _ i).nf ≤ _
      unfold hideF
      split
      · rename_i h; rw [h]; exact ⟨rfl, Nat.sub_le _ _⟩
      · exact ⟨rfl, Nat.le_refl _⟩
theorem run_own {n : Nat} {S : Nat → PSeen} {C : Nat → PChange} (i : Nat) : ∀ k, (runS n S C k i).own = (S i).own ∧ (runS n S C k i).nf ≤ (S i).nf
  | 0 => ⟨rfl, Nat.le_refl _⟩
  | k + 1 => by
    obtain ⟨h1, h2⟩ := run_own i k (n := n) (S := S) (C := C)
    obtain ⟨h3, h4⟩ := app_own i (n := n) (S := runS n S C k) (c := C k)
    exact ⟨h3.trans h1, Nat.le_trans h4 h2⟩
end Go.Proofs.Ytjjggefmmeminaa
