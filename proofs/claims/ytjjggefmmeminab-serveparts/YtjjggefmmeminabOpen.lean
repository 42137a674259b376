/-
  From what an argument reads as to what lies in memory: slices of types, of things, opened to the bottom.
-/
import Derived.Test.YtjjggefmmeminabOpenF
namespace Go.Proofs.Ytjjggefmmeminab
open Go.ChangeShapes Go.WideShapes Go.ChangeAt Go.RowKit Go.Deep

theorem Try.cells56 : Try.prog.cellsOf 56 = 3 := by kernel_rfl
theorem Try.cells90 : Try.prog.cellsOf 90 = 3 := by kernel_rfl
theorem Try.cells54 : Try.prog.cellsOf 54 = 1 := by kernel_rfl
theorem Try.cells40 : Try.prog.cellsOf 40 = 1 := by kernel_rfl

section
variable {H : Type} {enc : TypeId × Value → H} {w : World} {base : Nat} {spare : Nat → Bool} {held : Bool}

theorem open_types {fuel : Nat} {cs : List Value} {x : DataW H × List MemPlace} (h : DataW.trod enc Try.prog w base spare held fuel 70 cs = some x) :
    ∃ (a : Option Addr) (n cap : Nat) (T : Nat → LType), cs = [.slice a n cap] ∧ n ≤ cap ∧ TypesAt w a n T := by
  obtain ⟨a, n, cap, T, rfl, hl, hm, hT⟩ := open_els ⟨ByteArray.empty, none, 0, 0, fun _ => ⟨ByteArray.empty, 0, ByteArray.empty⟩⟩ Try.underlying70 Try.cells99 (by decide) (fun t : LType => [.string t.name, .slice t.fa t.nf t.fcap]) (fun t => t.nf ≤ t.fcap ∧ Small t.name ∧ FieldsAt w t.fa t.nf t.F) (fun h => open_type h) h
  refine ⟨a, n, cap, T, rfl, hl, hm, fun i hi => ?_⟩
  obtain ⟨b, o, ha, hc, hg⟩ := hT i hi
  exact ⟨b, o, ha, by simpa using hc 0 (by decide), by simpa using hc 1 (by decide), hg⟩

theorem open_key {fuel : Nat} {cs : List Value} {x : DataW H × List MemPlace} (h : DataW.trod enc Try.prog w base spare held fuel 9 cs = some x) :
    ∃ s : ByteArray, cs = [.string s] ∧ Small s := by
  obtain ⟨s, e, -, q⟩ := DataW.trod_string Try.underlying9 h
  exact ⟨s, e, q⟩

theorem open_keys {fuel : Nat} {cs : List Value} {x : DataW H × List MemPlace} (h : DataW.trod enc Try.prog w base spare held fuel 40 cs = some x) :
    ∃ (a : Option Addr) (n cap : Nat) (K : Nat → ByteArray), cs = [.slice a n cap] ∧ n ≤ cap ∧ KeysAt w a n K := by
  obtain ⟨a, n, cap, K, rfl, hl, hm, hK⟩ := open_els ByteArray.empty Try.underlying40 Try.cells9 (by decide) (fun s : ByteArray => [.string s]) (fun s => Small s) (fun h => open_key h) h
  refine ⟨a, n, cap, K, rfl, hl, hm, fun i hi => ?_⟩
  obtain ⟨b, o, ha, hc, hg⟩ := hK i hi
  exact ⟨b, o, ha, by simpa using hc 0 (by decide), hg⟩

theorem open_val {fuel : Nat} {cs : List Value} {x : DataW H × List MemPlace} (h : DataW.trod enc Try.prog w base spare held fuel 56 cs = some x) :
    ∃ v : LVal, cs = [.string v.field, .string v.text, .slice v.ka v.nk v.kcap] ∧ v.nk ≤ v.kcap ∧ Small v.field ∧ Small v.text ∧ KeysAt w v.ka v.nk v.K := by
  obtain ⟨y0, y1, y2, m, -, hl, h0, h1, h2⟩ := trod_struct3 Try.underlying56 h
  rw [Try.cells56] at hl
  obtain ⟨c0, c1, c2, rfl⟩ := list3 hl
  focus
    simp [Try.cells9, Try.cells40] at h0 h1 h2
    obtain ⟨s0, e0, -, q0⟩ := DataW.trod_string Try.underlying9 h0
    obtain ⟨s1, e1, -, q1⟩ := DataW.trod_string Try.underlying9 h1
    obtain ⟨a, n, cap, K, e2, q2, q3⟩ := open_keys h2
    simp at e0 e1 e2
    exact ⟨⟨s0, s1, a, n, cap, K⟩, by simp [e0, e1, e2], q2, q0, q1, q3⟩

theorem open_vals {fuel : Nat} {cs : List Value} {x : DataW H × List MemPlace} (h : DataW.trod enc Try.prog w base spare held fuel 54 cs = some x) :
    ∃ (a : Option Addr) (n cap : Nat) (V : Nat → LVal), cs = [.slice a n cap] ∧ n ≤ cap ∧ ValsAt w a n V := by
  obtain ⟨a, n, cap, V, rfl, hl, hm, hV⟩ := open_els ⟨ByteArray.empty, ByteArray.empty, none, 0, 0, fun _ => ByteArray.empty⟩ Try.underlying54 Try.cells56 (by decide) (fun v : LVal => [.string v.field, .string v.text, .slice v.ka v.nk v.kcap]) (fun v => v.nk ≤ v.kcap ∧ Small v.field ∧ Small v.text ∧ KeysAt w v.ka v.nk v.K) (fun h => open_val h) h
  refine ⟨a, n, cap, V, rfl, hl, hm, fun i hi => ?_⟩
  obtain ⟨b, o, ha, hc, hg⟩ := hV i hi
  exact ⟨b, o, ha, by simpa using hc 0 (by decide), by simpa using hc 1 (by decide), by simpa using hc 2 (by decide), hg⟩

theorem open_thing {fuel : Nat} {cs : List Value} {x : DataW H × List MemPlace} (h : DataW.trod enc Try.prog w base spare held fuel 90 cs = some x) :
    ∃ x : LThing, cs = [.string x.type, .string x.key, .slice x.va x.nv x.vcap] ∧ x.nv ≤ x.vcap ∧ Small x.type ∧ Small x.key ∧ ValsAt w x.va x.nv x.V := by
  obtain ⟨y0, y1, y2, m, -, hl, h0, h1, h2⟩ := trod_struct3 Try.underlying90 h
  rw [Try.cells90] at hl
  obtain ⟨c0, c1, c2, rfl⟩ := list3 hl
  focus
    simp [Try.cells9, Try.cells54] at h0 h1 h2
    obtain ⟨s0, e0, -, q0⟩ := DataW.trod_string Try.underlying9 h0
    obtain ⟨s1, e1, -, q1⟩ := DataW.trod_string Try.underlying9 h1
    obtain ⟨a, n, cap, V, e2, q2, q3⟩ := open_vals h2
    simp at e0 e1 e2
    exact ⟨⟨s0, s1, a, n, cap, V⟩, by simp [e0, e1, e2], q2, q0, q1, q3⟩

theorem open_things {fuel : Nat} {cs : List Value} {x : DataW H × List MemPlace} (h : DataW.trod enc Try.prog w base spare held fuel 72 cs = some x) :
    ∃ (a : Option Addr) (n cap : Nat) (X : Nat → LThing), cs = [.slice a n cap] ∧ n ≤ cap ∧ ThingsAt w a n X := by
  obtain ⟨a, n, cap, X, rfl, hl, hm, hX⟩ := open_els ⟨ByteArray.empty, ByteArray.empty, none, 0, 0, fun _ => ⟨ByteArray.empty, ByteArray.empty, none, 0, 0, fun _ => ByteArray.empty⟩⟩ Try.underlying72 Try.cells90 (by decide) (fun x : LThing => [.string x.type, .string x.key, .slice x.va x.nv x.vcap]) (fun x => x.nv ≤ x.vcap ∧ Small x.type ∧ Small x.key ∧ ValsAt w x.va x.nv x.V) (fun h => open_thing h) h
  refine ⟨a, n, cap, X, rfl, hl, hm, fun i hi => ?_⟩
  obtain ⟨b, o, ha, hc, hg⟩ := hX i hi
  exact ⟨b, o, ha, by simpa using hc 0 (by decide), by simpa using hc 1 (by decide), by simpa using hc 2 (by decide), hg⟩
end
end Go.Proofs.Ytjjggefmmeminab
