/-
  From what an argument reads as to what lies in memory: a slice of whatever elements; fields, and a type.
-/
import Derived.Test.YtjjggefmmeminabMem
import Derived.Test.YtjjggefmmeminabRows
import Derived.ProofKit
import Derived.Deep.Strs
namespace Go.Proofs.Ytjjggefmmeminab
open Go.ChangeShapes Go.WideShapes Go.ChangeAt Go.RowKit Go.Deep

theorem Try.own : ownKnob Try.prog.godebug = none := by kernel_rfl
theorem Try.laidOut : laidOutB Try.prog = true := by kernel_rfl

theorem Try.cells138 : Try.prog.cellsOf 138 = 3 := by kernel_rfl
theorem Try.cells99 : Try.prog.cellsOf 99 = 2 := by kernel_rfl
theorem Try.cells9 : Try.prog.cellsOf 9 = 1 := by kernel_rfl
theorem Try.cells3 : Try.prog.cellsOf 3 = 1 := by kernel_rfl
theorem Try.cells97 : Try.prog.cellsOf 97 = 1 := by kernel_rfl

theorem list2 {cs : List Value} (h : cs.length = 2) : ∃ c0 c1, cs = [c0, c1] := by
  match cs, h with
  | [c0, c1], _ => exact ⟨c0, c1, rfl⟩
theorem list3 {cs : List Value} (h : cs.length = 3) : ∃ c0 c1 c2, cs = [c0, c1, c2] := by
  match cs, h with
  | [c0, c1, c2], _ => exact ⟨c0, c1, c2, rfl⟩

section
variable {H : Type} {enc : TypeId × Value → H} {w : World} {base : Nat} {spare : Nat → Bool} {held : Bool}

theorem open_field {fuel : Nat} {cs : List Value} {x : DataW H × List MemPlace} (h : DataW.trod enc Try.prog w base spare held fuel 138 cs = some x) :
    ∃ f : LField, cs = [.string f.name, .int .i64 f.kind, .string f.type] ∧ Small f.name ∧ Small f.type ∧ (Lit.int .i64 f.kind).wf = true := by
  obtain ⟨y0, y1, y2, m, -, hl, h0, h1, h2⟩ := trod_struct3 Try.underlying138 h
  rw [Try.cells138] at hl
  obtain ⟨c0, c1, c2, rfl⟩ := list3 hl
  focus
    simp [Try.cells9, Try.cells3] at h0 h1 h2
    obtain ⟨s0, e0, -, q0⟩ := DataW.trod_string Try.underlying9 h0
    obtain ⟨k, e1, -, q1⟩ := DataW.trod_int Try.underlying3 h1
    obtain ⟨s2, e2, -, q2⟩ := DataW.trod_string Try.underlying9 h2
    simp at e0 e1 e2
    exact ⟨⟨s0, k, s2⟩, by simp [e0, e1, e2], q0, q2, q1⟩

/-- A slice of elements of k cells, each of which is made of an x as f says. -/
theorem open_els {α : Type} (d : α) {t e k : Nat} (ht : Try.prog.underlying t = some (.slice e)) (hc : Try.prog.cellsOf e = k) (hk : 0 < k) (f : α → List Value) (good : α → Prop)
    (each : ∀ {fuel : Nat} {cs : List Value} {x : DataW H × List MemPlace}, DataW.trod enc Try.prog w base spare held fuel e cs = some x → ∃ y : α, cs = f y ∧ good y)
    {fuel : Nat} {cs : List Value} {x : DataW H × List MemPlace} (h : DataW.trod enc Try.prog w base spare held fuel t cs = some x) :
    ∃ (a : Option Addr) (n cap : Nat) (F : Nat → α), cs = [.slice a n cap] ∧ n ≤ cap ∧ n ≤ maxLen ∧ ∀ i, i < n → ∃ b o, a = some ⟨b, o, none⟩ ∧ (∀ j, j < k → w.cell? ⟨b, o + i * k + j, none⟩ = (f (F i))[j]?) ∧ good (F i) := by
  rcases open_slice ht h with ⟨rfl, -⟩ | ⟨a, len, cap, m, n, D, Pl, rfl, -, hl, hm, hmm, -, hx⟩
  · exact ⟨none, 0, 0, fun _ => d, rfl, Nat.le_refl _, Nat.zero_le _, fun i hi => absurd hi (Nat.not_lt_zero _)⟩
  · have hlm : len ≤ m := by rw [hmm]; split <;> omega
    rw [hc] at hx
    haveI : Inhabited α := ⟨d⟩
    obtain ⟨F, hF⟩ := choose_lt (α := α) (n := len) (p := fun i y => w.cells? base (a.add (i * k)) k = some (f y) ∧ good y) (fun i hi => by
      obtain ⟨cs', h1, h2⟩ := hx i (by omega)
      obtain ⟨y, rfl, hy⟩ := each h2
      exact ⟨y, h1, hy⟩)
    refine ⟨some a, len, cap, F, rfl, hl, Nat.le_trans hl hm, fun i hi => ?_⟩
    obtain ⟨b, o, spot⟩ := a
    obtain ⟨h1, h2⟩ := hF i hi
    obtain ⟨-, hlen, hcell⟩ := World.cells?_some h1
    have hspot : spot = none := by
      obtain ⟨-, hlen0, hcell0⟩ := World.cells?_some (hF 0 (by omega)).1
      have h3 := hcell0 0 hk
      rw [List.getElem?_eq_getElem (by omega)] at h3
      simpa [Addr.add] using World.cell?_spot h3
    subst hspot
    refine ⟨b, o, rfl, fun j hj => ?_, h2⟩
    rw [← hcell j hj, add_plain, add_plain]

theorem open_fields {fuel : Nat} {cs : List Value} {x : DataW H × List MemPlace} (h : DataW.trod enc Try.prog w base spare held fuel 97 cs = some x) :
    ∃ (a : Option Addr) (n cap : Nat) (F : Nat → LField), cs = [.slice a n cap] ∧ n ≤ cap ∧ FieldsAt w a n F := by
  obtain ⟨a, n, cap, F, rfl, hl, hm, hF⟩ := open_els ⟨ByteArray.empty, 0, ByteArray.empty⟩ Try.underlying97 Try.cells138 (by decide) (fun f : LField => [.string f.name, .int .i64 f.kind, .string f.type]) (fun f => Small f.name ∧ Small f.type ∧ (Lit.int .i64 f.kind).wf = true) (fun h => open_field h) h
  refine ⟨a, n, cap, F, rfl, hl, hm, fun i hi => ?_⟩
  obtain ⟨b, o, ha, hc, hg⟩ := hF i hi
  exact ⟨b, o, ha, by simpa using hc 0 (by decide), by simpa using hc 1 (by decide), by simpa using hc 2 (by decide), hg⟩

theorem open_type {fuel : Nat} {cs : List Value} {x : DataW H × List MemPlace} (h : DataW.trod enc Try.prog w base spare held fuel 99 cs = some x) :
    ∃ t : LType, cs = [.string t.name, .slice t.fa t.nf t.fcap] ∧ t.nf ≤ t.fcap ∧ Small t.name ∧ FieldsAt w t.fa t.nf t.F := by
  obtain ⟨y0, y1, m, -, hl, h0, h1⟩ := trod_struct2 Try.underlying99 h
  rw [Try.cells99] at hl
  obtain ⟨c0, c1, rfl⟩ := list2 hl
  focus
    simp [Try.cells9, Try.cells97] at h0 h1
    obtain ⟨s0, e0, -, q0⟩ := DataW.trod_string Try.underlying9 h0
    obtain ⟨a, n, cap, F, e1, q1, q2⟩ := open_fields h1
    simp at e0 e1
    exact ⟨⟨s0, a, n, cap, F⟩, by simp [e0, e1], q1, q0, q2⟩

end
end Go.Proofs.Ytjjggefmmeminab
