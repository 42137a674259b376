/-
  What stands while other blocks are written (as in MgMem, by itself).
-/
import Derived.Test.YtjjggefmmeminabRowm
namespace Go.Proofs.Ytjjggefmmeminab
open Go.RowKit Go.Sort

/-- The blocks of Z stand as they stood. -/
structure Keep (Z : Nat → Prop) (w w' : World) : Prop where
  os : w'.os = w.os
  tape : w'.tape = w.tape
  output : w'.output = w.output
  size : w.heap.size ≤ w'.heap.size
  block : ∀ b, Z b → w'.heap[b]? = w.heap[b]?
theorem Keep.refl (Z : Nat → Prop) (w : World) : Keep Z w w := ⟨rfl, rfl, rfl, Nat.le_refl _, fun _ _ => rfl⟩
theorem Keep.trans {Z : Nat → Prop} {a b c : World} (h : Keep Z a b) (k : Keep Z b c) : Keep Z a c :=
  ⟨k.os.trans h.os, k.tape.trans h.tape, k.output.trans h.output, Nat.le_trans h.size k.size, fun i hi => (k.block i hi).trans (h.block i hi)⟩
theorem Keep.mono {Z Z' : Nat → Prop} {w w' : World} (h : Keep Z w w') (hz : ∀ b, Z' b → Z b) : Keep Z' w w' := ⟨h.os, h.tape, h.output, h.size, fun b hb => h.block b (hz b hb)⟩
theorem Keep.of {Z : Nat → Prop} {w w' : World} {B : Nat} (h : Below B w w') (hz : ∀ b, Z b → b < B) : Keep Z w w' := ⟨h.os, h.tape, h.output, h.size, fun b hb => h.block b (hz b hb)⟩
theorem Keep.below {Z : Nat → Prop} {w w' : World} {B : Nat} (h : Keep Z w w') (hz : ∀ b, b < B → Z b) : Below B w w' := ⟨h.os, h.tape, h.output, h.size, fun b hb => h.block b (hz b hb)⟩
theorem Keep.grown {Z : Nat → Prop} {w w' : World} {row : Option Nat} (h : w.grownBy w' row) (hz : ∀ b, Z b → b < w.heap.size) (hr : ∀ b, row = some b → ¬ Z b) : Keep Z w w' :=
  ⟨h.os, h.tape, h.output, h.size, fun b hb => h.block b (hz b hb) (fun e => hr b e.symm hb)⟩
theorem Keep.set {Z : Nat → Prop} (w : World) (p : Addr) (v : Value) (hp : ¬ Z p.block) : Keep Z w (w.setCell p v) :=
  ⟨rfl, rfl, rfl, by simp, fun b hb => Below.heap_setCell _ _ _ _ (fun e => hp (by rw [← e]; exact hb))⟩
theorem Keep.cell {Z : Nat → Prop} {w w' : World} (h : Keep Z w w') {p : Addr} (hp : Z p.block) : w'.cell? p = w.cell? p := World.cell?_of_block (h.block _ hp)
end Go.Proofs.Ytjjggefmmeminab
