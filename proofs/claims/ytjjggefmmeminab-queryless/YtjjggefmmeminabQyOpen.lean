/-
  From what an argument reads as to what lies in memory: a slice of parts.
-/
import Derived.Test.YtjjggefmmeminabQyMem
namespace Go.Proofs.Ytjjggefmmeminab
open Go.ChangeShapes Go.WideShapes Go.ChangeAt Go.RowKit Go.Deep Go.Sort Go.PlainAid

theorem Try.cells132 : Try.prog.cellsOf 132 = 4 := by kernel_rfl
theorem Try.cells130 : Try.prog.cellsOf 130 = 1 := by kernel_rfl
theorem list4q {cs : List Value} (h : cs.length = 4) : ∃ c0 c1 c2 c3, cs = [c0, c1, c2, c3] := by
  match cs, h with
  | [c0, c1, c2, c3], _ => exact ⟨c0, c1, c2, c3, rfl⟩
section
variable {H : Type} {enc : TypeId × Value → H} {w : World} {base : Nat} {spare : Nat → Bool} {held : Bool}

theorem okSlice {fuel : Nat} {cs : List Value} {x : DataW H × List MemPlace} (h : DataW.trod enc Try.prog w base spare held fuel 130 cs = some x) : ∃ a n k, cs = [.slice a n k] := by
  rcases open_slice Try.underlying130 h with ⟨rfl, -⟩ | ⟨a, len, cap, m, n, D, Pl, rfl, -⟩
  · exact ⟨_, _, _, rfl⟩
  · exact ⟨_, _, _, rfl⟩
theorem open_part {fuel : Nat} {cs : List Value} {x : DataW H × List MemPlace} (h : DataW.trod enc Try.prog w base spare held fuel 132 cs = some x) :
    ∃ p : LPart, cs = [.string p.name, .slice p.fa p.nf p.fcap, .slice p.oa p.no p.ocap, .slice p.ha p.nh p.hcap] ∧ Small p.name ∧ FieldsAt w p.fa p.nf p.F := by
  obtain ⟨y0, y1, y2, m, -, hl, h0, h1, h2⟩ := trod_struct3 Try.underlying132 h
  rw [Try.cells132] at hl
  obtain ⟨c0, c1, c2, c3, rfl⟩ := list4q hl
  simp [Try.cells99, Try.cells130] at h0 h1 h2
  obtain ⟨t, e0, -, q0, q1⟩ := open_type h0
  have f1 := okSlice h1
  have f2 := okSlice h2
  obtain ⟨a1, n1, k1, e1⟩ := f1
  obtain ⟨a2, n2, k2, e2⟩ := f2
  simp at e0 e1 e2
  exact ⟨⟨t.name, t.fa, t.nf, t.fcap, t.F, a1, n1, k1, a2, n2, k2⟩, by simp [e0, e1, e2], q0, q1⟩

theorem open_parts {fuel : Nat} {cs : List Value} {x : DataW H × List MemPlace} (h : DataW.trod enc Try.prog w base spare held fuel 36 cs = some x) :
    ∃ (a : Option Addr) (n cap : Nat) (P : Nat → LPart), cs = [.slice a n cap] ∧ n ≤ cap ∧ PartsAt w a n P := by
  obtain ⟨a, n, cap, P, rfl, hl, hm, hP⟩ := open_els (⟨ByteArray.empty, none, 0, 0, fun _ => ⟨ByteArray.empty, 0, ByteArray.empty⟩, none, 0, 0, none, 0, 0⟩ : LPart) Try.underlying36 Try.cells132 (by decide) (fun p : LPart => [.string p.name, .slice p.fa p.nf p.fcap, .slice p.oa p.no p.ocap, .slice p.ha p.nh p.hcap]) (fun p => Small p.name ∧ FieldsAt w p.fa p.nf p.F) (fun h => open_part h) h
  refine ⟨a, n, cap, P, rfl, hl, hm, fun i hi => ?_⟩
  obtain ⟨b, o, ha, hc, hg⟩ := hP i hi
  exact ⟨b, o, ha, by simpa using hc 0 (by decide), by simpa using hc 1 (by decide), by simpa using hc 2 (by decide), by simpa using hc 3 (by decide), hg⟩
end
end Go.Proofs.Ytjjggefmmeminab
