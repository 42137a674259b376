/-
  Schemas and things as they lie in memory: what a slice of types, fields, vals, keys, things holds, cell by cell. What lies so lies so behind whatever keeps old blocks.
-/
import Derived.WalkKit
import Derived.Lib.QuietBelow
import Derived.Test.YtjjggefmmeminabPlain
namespace Go.Proofs.Ytjjggefmmeminab
open Go.RowKit Go.Sort

structure LField where
  name : ByteArray
  kind : Int
  type : ByteArray
structure LType where
  name : ByteArray
  fa : Option Addr
  nf : Nat
  fcap : Nat
  F : Nat → LField
structure LVal where
  field : ByteArray
  text : ByteArray
  ka : Option Addr
  nk : Nat
  kcap : Nat
  K : Nat → ByteArray
structure LThing where
  type : ByteArray
  key : ByteArray
  va : Option Addr
  nv : Nat
  vcap : Nat
  V : Nat → LVal

/-- A string that a call may be handed. -/
def Small (s : ByteArray) : Prop := s.size ≤ maxLen

def FieldAt (w : World) (b o : Nat) (f : LField) : Prop :=
  w.cell? ⟨b, o, none⟩ = some (.string f.name) ∧ w.cell? ⟨b, o + 1, none⟩ = some (.int .i64 f.kind) ∧ w.cell? ⟨b, o + 2, none⟩ = some (.string f.type) ∧ Small f.name ∧ Small f.type ∧ (Lit.int .i64 f.kind).wf = true
def FieldsAt (w : World) (a : Option Addr) (n : Nat) (F : Nat → LField) : Prop := n ≤ maxLen ∧ ∀ i, i < n → ∃ b o, a = some ⟨b, o, none⟩ ∧ FieldAt w b (o + i * 3) (F i)
def TypeAt (w : World) (b o : Nat) (t : LType) : Prop :=
  w.cell? ⟨b, o, none⟩ = some (.string t.name) ∧ w.cell? ⟨b, o + 1, none⟩ = some (.slice t.fa t.nf t.fcap) ∧ t.nf ≤ t.fcap ∧ Small t.name ∧ FieldsAt w t.fa t.nf t.F
def TypesAt (w : World) (a : Option Addr) (n : Nat) (T : Nat → LType) : Prop := n ≤ maxLen ∧ ∀ i, i < n → ∃ b o, a = some ⟨b, o, none⟩ ∧ TypeAt w b (o + i * 2) (T i)
def KeysAt (w : World) (a : Option Addr) (n : Nat) (K : Nat → ByteArray) : Prop := n ≤ maxLen ∧ ∀ i, i < n → ∃ b o, a = some ⟨b, o, none⟩ ∧ w.cell? ⟨b, o + i, none⟩ = some (.string (K i)) ∧ Small (K i)
def ValAt (w : World) (b o : Nat) (v : LVal) : Prop :=
  w.cell? ⟨b, o, none⟩ = some (.string v.field) ∧ w.cell? ⟨b, o + 1, none⟩ = some (.string v.text) ∧ w.cell? ⟨b, o + 2, none⟩ = some (.slice v.ka v.nk v.kcap) ∧ v.nk ≤ v.kcap ∧ Small v.field ∧ Small v.text ∧ KeysAt w v.ka v.nk v.K
def ValsAt (w : World) (a : Option Addr) (n : Nat) (V : Nat → LVal) : Prop := n ≤ maxLen ∧ ∀ i, i < n → ∃ b o, a = some ⟨b, o, none⟩ ∧ ValAt w b (o + i * 3) (V i)
def ThingAt (w : World) (b o : Nat) (x : LThing) : Prop :=
  w.cell? ⟨b, o, none⟩ = some (.string x.type) ∧ w.cell? ⟨b, o + 1, none⟩ = some (.string x.key) ∧ w.cell? ⟨b, o + 2, none⟩ = some (.slice x.va x.nv x.vcap) ∧ x.nv ≤ x.vcap ∧ Small x.type ∧ Small x.key ∧ ValsAt w x.va x.nv x.V
def ThingsAt (w : World) (a : Option Addr) (n : Nat) (X : Nat → LThing) : Prop := n ≤ maxLen ∧ ∀ i, i < n → ∃ b o, a = some ⟨b, o, none⟩ ∧ ThingAt w b (o + i * 3) (X i)

/-- Are two texts the same? -/
def eqs (a b : ByteArray) : Bool := a.data.toList == b.data.toList
theorem eqs_eq (a b : ByteArray) : (a.toList == b.toList) = eqs a b := by unfold eqs; rw [ByteArray.toList_eq, ByteArray.toList_eq]
theorem toList_inj {a b : ByteArray} : a.toList = b.toList ↔ a = b := by
  rw [ByteArray.toList_eq, ByteArray.toList_eq]
  constructor
  · intro h
    cases a with | mk a => cases b with | mk b => exact congrArg ByteArray.mk (Array.toList_inj.1 h)
  · rintro rfl; rfl
theorem eqs_iff {a b : ByteArray} : eqs a b = true ↔ a = b := by rw [← eqs_eq, beq_iff_eq]; exact toList_inj
theorem toList_nil {s : ByteArray} : s.toList = [] ↔ s.size = 0 := by
  rw [ByteArray.toList_eq]
  constructor
  · intro h; have := congrArg List.length h; simpa using this
  · intro h; apply List.eq_nil_of_length_eq_zero; simpa using h
/-- The number of the first type of that name, or -1. -/
def find (n : Nat) (T : Nat → LType) (name : ByteArray) : Int := idx n (fun i => eqs (T i).name name)
/-- The number of the first field of that name, or -1. -/
def fieldIdx (n : Nat) (F : Nat → LField) (name : ByteArray) : Int := idx n (fun i => eqs (F i).name name)

theorem below_drewN (w : World) (q : Nat) : Below w.heap.size w (w.drewN q) := ⟨rfl, rfl, rfl, Nat.le_refl _, fun _ _ => rfl⟩

theorem keptCell {w w' : World} (h : Below w.heap.size w w') {p : Addr} {v : Value} (hc : w.cell? p = some v) : w'.cell? p = some v :=
  (h.cell (block_lt_of_cell hc)).trans hc

theorem FieldAt.kept {w w' : World} (h : Below w.heap.size w w') {b o : Nat} {f : LField} (hf : FieldAt w b o f) : FieldAt w' b o f :=
  ⟨keptCell h hf.1, keptCell h hf.2.1, keptCell h hf.2.2.1, hf.2.2.2⟩
theorem FieldsAt.kept {w w' : World} (h : Below w.heap.size w w') {a : Option Addr} {n : Nat} {F : Nat → LField} (hf : FieldsAt w a n F) : FieldsAt w' a n F :=
  ⟨hf.1, fun i hi => let ⟨b, o, e, hh⟩ := hf.2 i hi; ⟨b, o, e, hh.kept h⟩⟩
theorem TypeAt.kept {w w' : World} (h : Below w.heap.size w w') {b o : Nat} {t : LType} (ht : TypeAt w b o t) : TypeAt w' b o t :=
  ⟨keptCell h ht.1, keptCell h ht.2.1, ht.2.2.1, ht.2.2.2.1, ht.2.2.2.2.kept h⟩
theorem TypesAt.kept {w w' : World} (h : Below w.heap.size w w') {a : Option Addr} {n : Nat} {T : Nat → LType} (ht : TypesAt w a n T) : TypesAt w' a n T :=
  ⟨ht.1, fun i hi => let ⟨b, o, e, hh⟩ := ht.2 i hi; ⟨b, o, e, hh.kept h⟩⟩
theorem KeysAt.kept {w w' : World} (h : Below w.heap.size w w') {a : Option Addr} {n : Nat} {K : Nat → ByteArray} (hk : KeysAt w a n K) : KeysAt w' a n K :=
  ⟨hk.1, fun i hi => let ⟨b, o, e, hh, hs⟩ := hk.2 i hi; ⟨b, o, e, keptCell h hh, hs⟩⟩
theorem ValAt.kept {w w' : World} (h : Below w.heap.size w w') {b o : Nat} {v : LVal} (hv : ValAt w b o v) : ValAt w' b o v :=
  ⟨keptCell h hv.1, keptCell h hv.2.1, keptCell h hv.2.2.1, hv.2.2.2.1, hv.2.2.2.2.1, hv.2.2.2.2.2.1, hv.2.2.2.2.2.2.kept h⟩
theorem ValsAt.kept {w w' : World} (h : Below w.heap.size w w') {a : Option Addr} {n : Nat} {V : Nat → LVal} (hv : ValsAt w a n V) : ValsAt w' a n V :=
  ⟨hv.1, fun i hi => let ⟨b, o, e, hh⟩ := hv.2 i hi; ⟨b, o, e, hh.kept h⟩⟩
theorem ThingAt.kept {w w' : World} (h : Below w.heap.size w w') {b o : Nat} {x : LThing} (hx : ThingAt w b o x) : ThingAt w' b o x :=
  ⟨keptCell h hx.1, keptCell h hx.2.1, keptCell h hx.2.2.1, hx.2.2.2.1, hx.2.2.2.2.1, hx.2.2.2.2.2.1, hx.2.2.2.2.2.2.kept h⟩
theorem ThingsAt.kept {w w' : World} (h : Below w.heap.size w w') {a : Option Addr} {n : Nat} {X : Nat → LThing} (hx : ThingsAt w a n X) : ThingsAt w' a n X :=
  ⟨hx.1, fun i hi => let ⟨b, o, e, hh⟩ := hx.2 i hi; ⟨b, o, e, hh.kept h⟩⟩

theorem TypesAt.less {w : World} {a : Option Addr} {n m : Nat} {T : Nat → LType} (h : TypesAt w a n T) (hm : m ≤ n) : TypesAt w a m T :=
  ⟨Nat.le_trans hm h.1, fun i hi => h.2 i (Nat.lt_of_lt_of_le hi hm)⟩
theorem FieldsAt.less {w : World} {a : Option Addr} {n m : Nat} {F : Nat → LField} (h : FieldsAt w a n F) (hm : m ≤ n) : FieldsAt w a m F :=
  ⟨Nat.le_trans hm h.1, fun i hi => h.2 i (Nat.lt_of_lt_of_le hi hm)⟩
theorem ThingsAt.less {w : World} {a : Option Addr} {n m : Nat} {X : Nat → LThing} (h : ThingsAt w a n X) (hm : m ≤ n) : ThingsAt w a m X :=
  ⟨Nat.le_trans hm h.1, fun i hi => h.2 i (Nat.lt_of_lt_of_le hi hm)⟩

theorem below1 (w : World) (o : Obj) : Below w.heap.size w (w.alloc o) := (Below.refl _ _).alloc (Nat.le_refl _) o

/-- Two blocks laid. -/
theorem below2 (w : World) (o o' : Obj) : Below w.heap.size w ((w.alloc o).alloc o') := ((Below.refl _ _).alloc (Nat.le_refl _) o).alloc (by simp) o'

end Go.Proofs.Ytjjggefmmeminab
