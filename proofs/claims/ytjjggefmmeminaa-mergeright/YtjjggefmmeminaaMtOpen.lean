/-
  From what an argument reads as to what lies in memory: a slice of services.
-/
import Derived.Test.YtjjggefmmeminaaChOpen
import Derived.Test.YtjjggefmmeminaaMtTurn
namespace Go.Proofs.Ytjjggefmmeminaa
open Go.ChangeShapes Go.WideShapes Go.ChangeAt Go.RowKit Go.Deep

theorem Try.cells83 : Try.prog.cellsOf 83 = 3 := by kernel_rfl
theorem Try.cells22 : Try.prog.cellsOf 22 = 1 := by kernel_rfl
theorem Try.cells40 : Try.prog.cellsOf 40 = 1 := by kernel_rfl
theorem Try.cells23 : Try.prog.cellsOf 23 = 1 := by kernel_rfl

section
variable {H : Type} {enc : TypeId × Value → H} {w : World} {base : Nat} {spare : Nat → Bool} {held : Bool}

theorem open_service {fuel : Nat} {cs : List Value} {x : DataW H × List MemPlace} (h : DataW.trod enc Try.prog w base spare held fuel 83 cs = some x) :
    ∃ s : LServ, cs = [.slice s.ta s.nt s.tcap, .slice s.ca s.nc s.ccap, .slice s.xa s.nx s.xcap] ∧ ServOk w s := by
  obtain ⟨y0, y1, y2, m, -, hl, h0, h1, h2⟩ := trod_struct3 Try.underlying83 h
  rw [Try.cells83] at hl
  obtain ⟨c0, c1, c2, rfl⟩ := list3 hl
  simp [Try.cells22, Try.cells40, Try.cells23] at h0 h1 h2
  obtain ⟨a0, n0, d0, T, e0, q0, r0⟩ := open_types h0
  obtain ⟨a1, n1, d1, C, e1, -, r1⟩ := open_changes h1
  obtain ⟨a2, n2, d2, X, e2, q2, r2⟩ := open_things h2
  simp at e0 e1 e2
  exact ⟨⟨a0, n0, d0, T, a1, n1, d1, C, a2, n2, d2, X⟩, by simp [e0, e1, e2], r0, r1, r2, q0, q2⟩

theorem open_services {fuel : Nat} {cs : List Value} {x : DataW H × List MemPlace} (h : DataW.trod enc Try.prog w base spare held fuel 65 cs = some x) :
    ∃ (a : Option Addr) (n cap : Nat) (V : Nat → LServ), cs = [.slice a n cap] ∧ n ≤ cap ∧ ServsAt w a n V := by
  obtain ⟨a, n, cap, V, rfl, hl, hm, hV⟩ := open_els (⟨none, 0, 0, fun _ => ⟨ByteArray.empty, none, 0, 0, fun _ => ⟨ByteArray.empty, 0, ByteArray.empty⟩⟩, none, 0, 0, fun _ => ⟨0, ByteArray.empty, ByteArray.empty, ByteArray.empty⟩, none, 0, 0, fun _ => ⟨ByteArray.empty, ByteArray.empty, none, 0, 0, fun _ => ⟨ByteArray.empty, ByteArray.empty, none, 0, 0, fun _ => ByteArray.empty⟩⟩⟩ : LServ) Try.underlying65 Try.cells83 (by decide) (fun s : LServ => [.slice s.ta s.nt s.tcap, .slice s.ca s.nc s.ccap, .slice s.xa s.nx s.xcap]) (fun s => ServOk w s) (fun h => open_service h) h
  refine ⟨a, n, cap, V, rfl, hl, hm, fun i hi => ?_⟩
  obtain ⟨b, o, ha, hc, hg⟩ := hV i hi
  exact ⟨b, o, ha, by simpa using hc 0 (by decide), by simpa using hc 1 (by decide), by simpa using hc 2 (by decide), hg⟩
end
end Go.Proofs.Ytjjggefmmeminaa
