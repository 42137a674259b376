import Derived.Test.YtbnjflajhlnifaaChPlain
/-
  Small things that many texts need: a block that stands is kept; what lies in it; a schema that is seen is right.
-/
namespace Go.Proofs.Ytbnjflajhlnifaa
open Go.RowKit Go.Sort

theorem blk_news {w : World} {b t : Nat} {cs : Array Value} (h : w.heap[b]? = some (.cells cs t (0, 0))) : ∀ ad, some (⟨b, 0, none⟩ : Addr) = some ad → ∀ j u, cs.toList[j]? = some u → w.cell? (ad.add j) = some u := by
  intro ad had j u hu
  cases had
  rw [WideShapes.add_plain]
  simp [World.cell?, h]
  simpa using hu
theorem blk_kept {w w' : World} (hb : Below w.heap.size w w') {k : Nat} {o : Obj} (h : w.heap[k]? = some o) : w'.heap[k]? = some o := (hb.block k (lt_of_block h)).trans h
theorem seeF_right {n m : Nat} {T : Nat → LType} {C : Nat → PChange} (h : (seeF n T m C).1 = 0) : RightS n (initS T) := by
  unfold seeF at h
  by_cases h1 : (wrongS n T).1 ≠ 0
  · rw [if_pos h1] at h; exact absurd h h1
  · exact right_iff.1 (Decidable.not_not.1 h1)
end Go.Proofs.Ytbnjflajhlnifaa
