/-
  Picks and parts as they lie in memory.
-/
import Derived.Test.YtjjggefmmeminabQyPlain
import Derived.Test.YtjjggefmmeminabOpenF
namespace Go.Proofs.Ytjjggefmmeminab
open Go.ChangeShapes Go.WideShapes Go.ChangeAt Go.RowKit Go.Deep Go.Sort Go.PlainAid

/-- A slice that reads as these picks. -/
def PicksAt (w : World) : (d : Nat) → Option Addr → List (Pick d) → Prop
  | 0, _, _ => True
  | d + 1, a, L => L.length ≤ maxLen ∧ ∀ i, i < L.length → ∃ b o A C, a = some ⟨b, o, none⟩ ∧ w.cell? ⟨b, o + i * 3, none⟩ = some (.string (nick (pickN L i))) ∧ w.cell? ⟨b, o + i * 3 + 1, none⟩ = some (.string (pfield (pickN L i))) ∧ w.cell? ⟨b, o + i * 3 + 2, none⟩ = some (.slice A (subs (pickN L i)).length C) ∧ (subs (pickN L i)).length ≤ C ∧ Small (nick (pickN L i)) ∧ Small (pfield (pickN L i)) ∧ PicksAt w d A (subs (pickN L i))
theorem PicksAt.max {w : World} {d : Nat} {a : Option Addr} {L : List (Pick d)} (h : PicksAt w d a L) : L.length ≤ maxLen := by
  cases d with
  | zero => rw [nil0 L]; exact Nat.zero_le _
  | succ d => exact h.1
theorem PicksAt.kept {w w' : World} (hB : Below w.heap.size w w') : ∀ {d : Nat} {a : Option Addr} {L : List (Pick d)}, PicksAt w d a L → PicksAt w' d a L
  | 0, _, _, _ => trivial
  | _ + 1, _, _, h => ⟨h.1, fun i hi => let ⟨b, o, A, C, e, c0, c1, c2, hc, s0, s1, hs⟩ := h.2 i hi; ⟨b, o, A, C, e, keptCell hB c0, keptCell hB c1, keptCell hB c2, hc, s0, s1, hs.kept hB⟩⟩
theorem PicksAt.less {w : World} {d : Nat} {a : Option Addr} {L : List (Pick d)} (h : PicksAt w d a L) (k : Nat) : PicksAt w d a (L.take k) := by
  cases d with
  | zero => trivial
  | succ d =>
    refine ⟨Nat.le_trans (by rw [List.length_take]; omega) h.1, fun i hi => ?_⟩
    have h1 : i < k ∧ i < L.length := by rw [List.length_take] at hi; omega
    have e : pickN (L.take k) i = pickN L i := by
      rw [pickN_get hi, pickN_get h1.2, List.getElem_take]
    rw [e]
    exact h.2 i h1.2
theorem PicksAt.none {w : World} {d : Nat} {a : Option Addr} : PicksAt w d a [] := by
  cases d with
  | zero => trivial
  | succ d => exact ⟨Nat.zero_le _, fun i hi => absurd hi (Nat.not_lt_zero _)⟩

def PartsAt (w : World) (a : Option Addr) (n : Nat) (P : Nat → LPart) : Prop := n ≤ maxLen ∧ ∀ i, i < n → ∃ b o, a = some ⟨b, o, none⟩ ∧ w.cell? ⟨b, o + i * 4, none⟩ = some (.string (P i).name) ∧ w.cell? ⟨b, o + i * 4 + 1, none⟩ = some (.slice (P i).fa (P i).nf (P i).fcap) ∧ w.cell? ⟨b, o + i * 4 + 2, none⟩ = some (.slice (P i).oa (P i).no (P i).ocap) ∧ w.cell? ⟨b, o + i * 4 + 3, none⟩ = some (.slice (P i).ha (P i).nh (P i).hcap) ∧ Small (P i).name ∧ FieldsAt w (P i).fa (P i).nf (P i).F
theorem PartsAt.kept {w w' : World} {a : Option Addr} {n : Nat} {P : Nat → LPart} (h : PartsAt w a n P) (hB : Below w.heap.size w w') : PartsAt w' a n P :=
  ⟨h.1, fun i hi => let ⟨b, o, e, c0, c1, c2, c3, s0, hF⟩ := h.2 i hi; ⟨b, o, e, keptCell hB c0, keptCell hB c1, keptCell hB c2, keptCell hB c3, s0, hF.kept hB⟩⟩

theorem Try.cells63 : Try.prog.cellsOf 63 = 3 := by kernel_rfl
theorem Try.cells22 : Try.prog.cellsOf 22 = 1 := by kernel_rfl
theorem Try.cells24 : Try.prog.cellsOf 24 = 3 := by kernel_rfl

theorem ofFn_len {α : Type} (n : Nat) (F : Nat → α) : (List.ofFn (fun i : Fin n => F i.1)).length = n := by simp
theorem pickN_ofFn {d n : Nat} {F : Nat → Pick (d + 1)} {i : Nat} (h : i < n) : pickN (List.ofFn (fun i : Fin n => F i.1)) i = F i := by
  rw [pickN_get (by rw [ofFn_len]; exact h)]; simp

section
variable {H : Type} {enc : TypeId × Value → H} {w : World} {base : Nat} {spare : Nat → Bool} {held : Bool}

/-- A slice of picks, opened to the bottom. -/
theorem open_picks : ∀ (k fuel : Nat) {cs : List Value} {x : DataW H × List MemPlace}, fuel ≤ 2 * k + 1 → DataW.trod enc Try.prog w base spare held fuel 22 cs = some x →
    ∃ (a : Option Addr) (cap : Nat) (L : List (Pick k)), cs = [.slice a L.length cap] ∧ L.length ≤ cap ∧ PicksAt w k a L := by
  intro k
  induction k with
  | zero =>
    intro fuel cs x hk h
    rcases DataW.trod_slice Try.underlying22 h with ⟨rfl, -⟩ | ⟨a, len, cap, elems, rest, n, rfl, rfl, -, hb, hl, hm, hlen, hel, -, -⟩
    · exact ⟨none, 0, [], rfl, Nat.le_refl _, PicksAt.none⟩
    · have h0 : len = 0 := by
        rcases Nat.eq_zero_or_pos len with h0 | h0
        · exact h0
        · have h1 := hel 0 h0
          rw [List.getElem?_eq_getElem (by omega)] at h1
          obtain ⟨cs', h2, h3⟩ := Option.bind_eq_some_iff.1 h1
          obtain ⟨xs, m, e, -⟩ := DataW.trod_struct Try.underlying63 h3
          omega
      exact ⟨some a, cap, [], by rw [h0]; rfl, Nat.zero_le _, PicksAt.none⟩
  | succ k ih =>
  intro fuel cs x hk h
  rcases DataW.trod_slice Try.underlying22 h with ⟨rfl, -⟩ | ⟨a, len, cap, elems, rest, n, rfl, rfl, -, hb, hl, hm, hlen, hel, -, -⟩
  · exact ⟨none, 0, [], rfl, Nat.le_refl _, PicksAt.none⟩
  rw [Try.cells63] at hel
  haveI : Inhabited (Pick (k + 1)) := ⟨dP⟩
  obtain ⟨F, hF⟩ := choose_lt (α := Pick (k + 1)) (n := len) (p := fun i p => ∃ A C, w.cells? base (a.add (i * 3)) 3 = some [.string (nick p), .string (pfield p), .slice A (subs p).length C] ∧ (subs p).length ≤ C ∧ Small (nick p) ∧ Small (pfield p) ∧ PicksAt w k A (subs p)) (fun i hi => by
    have h1 := hel i hi
    rw [List.getElem?_eq_getElem (by omega)] at h1
    obtain ⟨cs', h2, h3⟩ := Option.bind_eq_some_iff.1 h1
    obtain ⟨xs, m, rfl, -, hl', hxs, hf⟩ := DataW.trod_struct Try.underlying63 h3
    rw [Try.cells63] at hl'
    obtain ⟨c0, c1, c2, rfl⟩ := list3 hl'
    have hx3 : xs.length = 3 := hxs
    have f0 := hf 0 _ rfl
    have f1 := hf 1 _ rfl
    have f2 := hf 2 _ rfl
    rw [List.getElem?_eq_getElem (by omega)] at f0 f1 f2
    simp [Try.cells9, Try.cells22] at f0 f1 f2
    obtain ⟨s0, e0, -, q0⟩ := DataW.trod_string Try.underlying9 f0
    obtain ⟨s1, e1, -, q1⟩ := DataW.trod_string Try.underlying9 f1
    obtain ⟨A, C, l, e2, q2, q3⟩ := ih m (by omega) f2
    simp at e0 e1 e2
    exact ⟨mkPick s0 s1 l, A, C, by rw [h2, e0, e1, e2]; rfl, q2, q0, q1, q3⟩)
  refine ⟨some a, cap, List.ofFn (fun i : Fin len => F i.1), by rw [ofFn_len], by rw [ofFn_len]; exact hl, by rw [ofFn_len]; omega, fun i hi => ?_⟩
  rw [ofFn_len] at hi
  rw [pickN_ofFn hi]
  obtain ⟨A, C, h1, h2, h3, h4, h5⟩ := hF i hi
  obtain ⟨b, o, spot⟩ := a
  obtain ⟨-, hlen', hcell⟩ := World.cells?_some h1
  have hspot : spot = none := by
    obtain ⟨A0, C0, g1, -⟩ := hF 0 (by omega)
    obtain ⟨-, hlen0, hcell0⟩ := World.cells?_some g1
    have h3 := hcell0 0 (by decide)
    rw [List.getElem?_eq_getElem (by omega)] at h3
    simpa [Addr.add] using World.cell?_spot h3
  subst hspot
  refine ⟨b, o, A, C, rfl, ?_, ?_, ?_, h2, h3, h4, h5⟩
  · have := hcell 0 (by decide); rw [add_plain, add_plain] at this; simpa using this
  · have := hcell 1 (by decide); rw [add_plain, add_plain] at this; simpa using this
  · have := hcell 2 (by decide); rw [add_plain, add_plain] at this; simpa using this

/-- What is asked. -/
theorem open_ask {fuel : Nat} {cs : List Value} {x : DataW H × List MemPlace} (h : DataW.trod enc Try.prog w base spare held fuel 24 cs = some x) :
    ∃ (d : Nat) (type key : ByteArray) (a : Option Addr) (cap : Nat) (L : List (Pick d)), cs = [.string type, .string key, .slice a L.length cap] ∧ L.length ≤ cap ∧ Small type ∧ Small key ∧ PicksAt w d a L := by
  obtain ⟨y0, y1, y2, m, -, hl, h0, h1, h2⟩ := trod_struct3 Try.underlying24 h
  rw [Try.cells24] at hl
  obtain ⟨c0, c1, c2, rfl⟩ := list3 hl
  simp [Try.cells9, Try.cells22] at h0 h1 h2
  obtain ⟨s0, e0, -, q0⟩ := DataW.trod_string Try.underlying9 h0
  obtain ⟨s1, e1, -, q1⟩ := DataW.trod_string Try.underlying9 h1
  obtain ⟨A, C, l, e2, q2, q3⟩ := open_picks m m (by omega) h2
  simp at e0 e1 e2
  exact ⟨m, s0, s1, A, C, l, by simp [e0, e1, e2], q2, q0, q1, q3⟩
end
end Go.Proofs.Ytjjggefmmeminab
