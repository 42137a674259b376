/-
  Picks that lie in memory of their own, whatever becomes of some blocks; a pick's own variable.
-/
import Derived.Test.YtjjggefmmeminabQpName
namespace Go.Proofs.Ytjjggefmmeminab
open Go.RowKit Go.Sort Go.PlainAid

/-- A slice reads as these picks, whatever becomes of the blocks of X. -/
def PicksFree (X : Nat → Prop) (w : World) (d : Nat) (a : Option Addr) (L : List (Pick d)) : Prop :=
  ∀ w' : World, (∀ k, k < w.heap.size → ¬ X k → w'.heap[k]? = w.heap[k]?) → PicksAt w' d a L
theorem PicksFree.at {X : Nat → Prop} {w : World} {d : Nat} {a : Option Addr} {L : List (Pick d)} (h : PicksFree X w d a L) : PicksAt w d a L := h w fun _ _ _ => rfl
theorem PicksFree.step {X Y : Nat → Prop} {w w' : World} {d : Nat} {a : Option Addr} {L : List (Pick d)} (h : PicksFree X w d a L) (hs : w.heap.size ≤ w'.heap.size) (hk : ∀ k, k < w.heap.size → ¬ X k → w'.heap[k]? = w.heap[k]?) (hY : ∀ k, k < w.heap.size → Y k → X k) : PicksFree Y w' d a L :=
  fun w2 h2 => h w2 fun k h3 h4 => (h2 k (by omega) (fun hy => h4 (hY k h3 hy))).trans (hk k h3 h4)
theorem PicksFree.none {X : Nat → Prop} {w : World} {d : Nat} {a : Option Addr} : PicksFree X w d a [] := fun _ _ => PicksAt.none

/-- A pick's own variable. -/
def PBox (w : World) (b : Nat) (s f : ByteArray) (A : Option Addr) (n C : Nat) : Prop := w.heap[b]? = some (.cells #[.string s, .string f, .slice A n C] 63 (0, 0))
section
variable {w w' : World} {b : Nat} {s f : ByteArray} {A : Option Addr} {n C : Nat}
theorem PBox.c0 (h : PBox w b s f A n C) : w.cell? ⟨b, 0, none⟩ = some (.string s) := by simp [World.cell?, show w.heap[b]? = _ from h]
theorem PBox.c1 (h : PBox w b s f A n C) : w.cell? ⟨b, 1, none⟩ = some (.string f) := by simp [World.cell?, show w.heap[b]? = _ from h]
theorem PBox.c2 (h : PBox w b s f A n C) : w.cell? ⟨b, 2, none⟩ = some (.slice A n C) := by simp [World.cell?, show w.heap[b]? = _ from h]
theorem PBox.f0 (h : PBox w b s f A n C) : w.frozen? ⟨b, 0, none⟩ = false := by simp [World.frozen?, show w.heap[b]? = _ from h]
theorem PBox.f1 (h : PBox w b s f A n C) : w.frozen? ⟨b, 1, none⟩ = false := by simp [World.frozen?, show w.heap[b]? = _ from h]
theorem PBox.f2 (h : PBox w b s f A n C) : w.frozen? ⟨b, 2, none⟩ = false := by simp [World.frozen?, show w.heap[b]? = _ from h]
theorem PBox.lt (h : PBox w b s f A n C) : b < w.heap.size := block_lt_of_cell h.c0
theorem PBox.kept (h : PBox w b s f A n C) (hB : Below w.heap.size w w') : PBox w' b s f A n C := (hB.block b h.lt).trans h
theorem PBox.away {r : Nat} (h : PBox w b s f A n C) (hA : Away r w w') (hr : b ≠ r) : PBox w' b s f A n C := (hA.block b h.lt hr).trans h
theorem PBox.set0 (h : PBox w b s f A n C) (s' : ByteArray) : PBox (w.setCell ⟨b, 0, none⟩ (.string s')) b s' f A n C := heap_setCell_same w b 0 _ 63 _ h
theorem PBox.set1 (h : PBox w b s f A n C) (f' : ByteArray) : PBox (w.setCell ⟨b, 1, none⟩ (.string f')) b s f' A n C := heap_setCell_same w b 1 _ 63 _ h
theorem PBox.set2 (h : PBox w b s f A n C) (A' : Option Addr) (n' C' : Nat) : PBox (w.setCell ⟨b, 2, none⟩ (.slice A' n' C')) b s f A' n' C' := heap_setCell_same w b 2 _ 63 _ h
theorem PBox.other {r o : Nat} {v : Value} (h : PBox w b s f A n C) (hr : b ≠ r) : PBox (w.setCell ⟨r, o, none⟩ v) b s f A n C := (Below.heap_setCell w ⟨r, o, none⟩ v b hr).trans h
end
theorem RBox.other {w : World} {b : Nat} {s : ByteArray} {i n : Nat} {r o : Nat} {v : Value} (h : RBox w b s i n) (hr : b ≠ r) : RBox (w.setCell ⟨r, o, none⟩ v) b s i n := (Below.heap_setCell w ⟨r, o, none⟩ v b hr).trans h
/-- .. behind stores into new blocks, too. -/
theorem Away.setNew {b : Nat} {w w' : World} (h : Away b w w') {r o : Nat} {v : Value} (hr : w.heap.size ≤ r) : Away b w (w'.setCell ⟨r, o, none⟩ v) :=
  ⟨h.os, h.tape, h.output, by simpa using h.size, fun k hk hb => (Below.heap_setCell w' ⟨r, o, none⟩ v k (by show k ≠ r; omega)).trans (h.block k hk hb)⟩
theorem Away.from {b : Nat} {w w1 w' : World} (h : Away b w1 w') (h1 : Below w.heap.size w w1) : Away b w w' :=
  ⟨h.os.trans h1.os, h.tape.trans h1.tape, h.output.trans h1.output, Nat.le_trans h1.size h.size, fun k hk hb => (h.block k (Nat.lt_of_lt_of_le hk h1.size) hb).trans (h1.block k hk)⟩

def ListOk (d : Nat) : Prop := ∀ (b : Nat) (s : ByteArray) (i n deep : Nat) (w : World), deep + d = 9 → RBox w b s i n → i ≤ s.size → n ≤ 60 → s.size ≤ 1000 →
    Calls Try.prog 62 #[.pointer (some ⟨b, 0, none⟩), .int .i64 (deep : Int)] w fun e w' =>
      (∀ r, pList s d i n = .ok r → ∃ a cap, e = .returned (.slice a r.1.length cap) ∧ r.1.length ≤ cap ∧ RBox w' b s r.2.1 r.2.2 ∧ PicksFree (fun k => k < w.heap.size) w' d a r.1) ∧ (∀ x, pList s d i n = .error x → e = .panicked (thrown x)) ∧ Away b w w'
end Go.Proofs.Ytjjggefmmeminab
