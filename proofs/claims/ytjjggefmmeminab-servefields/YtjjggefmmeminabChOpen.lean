/-
  From what an argument reads as to what lies in memory: a slice of changes.
-/
import Derived.Test.YtjjggefmmeminabOpen
import Derived.Test.YtjjggefmmeminabChSee
import Derived.Lib.SmallJoins
namespace Go.Proofs.Ytjjggefmmeminab
open Go.ChangeShapes Go.WideShapes Go.ChangeAt Go.RowKit Go.Deep

theorem Try.cells176 : Try.prog.cellsOf 176 = 4 := by kernel_rfl
theorem list4 {cs : List Value} (h : cs.length = 4) : ∃ c0 c1 c2 c3, cs = [c0, c1, c2, c3] := by
  match cs, h with
  | [c0, c1, c2, c3], _ => exact ⟨c0, c1, c2, c3, rfl⟩

section
variable {H : Type} {enc : TypeId × Value → H} {w : World} {base : Nat} {spare : Nat → Bool} {held : Bool}

theorem open_change {fuel : Nat} {cs : List Value} {x : DataW H × List MemPlace} (h : DataW.trod enc Try.prog w base spare held fuel 176 cs = some x) :
    ∃ c : PChange, cs = [.int .i64 c.kind, .string c.type, .string c.field, .string c.to] ∧ Small c.type ∧ Small c.field ∧ Small c.to := by
  obtain ⟨y0, y1, y2, y3, m, -, hl, h0, h1, h2, h3⟩ := Go.Joins.trod_struct4 Try.underlying176 h
  rw [Try.cells176] at hl
  obtain ⟨c0, c1, c2, c3, rfl⟩ := list4 hl
  simp [Try.cells9, Try.cells3] at h0 h1 h2 h3
  obtain ⟨k, e0, -, q0⟩ := DataW.trod_int Try.underlying3 h0
  obtain ⟨s1, e1, -, q1⟩ := DataW.trod_string Try.underlying9 h1
  obtain ⟨s2, e2, -, q2⟩ := DataW.trod_string Try.underlying9 h2
  obtain ⟨s3, e3, -, q3⟩ := DataW.trod_string Try.underlying9 h3
  simp at e0 e1 e2 e3
  exact ⟨⟨k, s1, s2, s3⟩, by simp [e0, e1, e2, e3], q1, q2, q3⟩

theorem open_changes {fuel : Nat} {cs : List Value} {x : DataW H × List MemPlace} (h : DataW.trod enc Try.prog w base spare held fuel 71 cs = some x) :
    ∃ (a : Option Addr) (n cap : Nat) (C : Nat → PChange), cs = [.slice a n cap] ∧ n ≤ cap ∧ ChangesAt w a n C := by
  obtain ⟨a, n, cap, C, rfl, hl, hm, hC⟩ := open_els ⟨0, ByteArray.empty, ByteArray.empty, ByteArray.empty⟩ Try.underlying71 Try.cells176 (by decide) (fun c : PChange => [.int .i64 c.kind, .string c.type, .string c.field, .string c.to]) (fun c => Small c.type ∧ Small c.field ∧ Small c.to) (fun h => open_change h) h
  refine ⟨a, n, cap, C, rfl, hl, hm, fun i hi => ?_⟩
  obtain ⟨b, o, ha, hc, hg⟩ := hC i hi
  exact ⟨b, o, ha, by simpa using hc 0 (by decide), by simpa using hc 1 (by decide), by simpa using hc 2 (by decide), by simpa using hc 3 (by decide), hg⟩
end
end Go.Proofs.Ytjjggefmmeminab
