import Derived.Test.YtbnjflajhlnifaaRmWrong
import Derived.Test.YtbnjflajhlnifaaRmSame
/-
  'out = append(append(append([]api.Part{}, out[:at]...), api.Part{..}), out[at:]...)': what each operation leaves.
-/
namespace Go.Proofs.Ytbnjflajhlnifaa
open Go.RowKit Go.Sort

def newC (name : ByteArray) : List Value := [.string name, .slice none 0 0, .slice none 0 0, .slice none 0 0]
def qRow0 (B : Nat) (x : Value) (w : World) : Prop := ∃ g, x = .slice (some ⟨g, 0, none⟩) 0 0 ∧ B ≤ g ∧ w.heap[g]? = some (.cells #[] 76 (0, 0))
def qEl (B : Nat) (name : ByteArray) (x : Value) (w : World) : Prop := ∃ b, x = .slice (some ⟨b, 0, none⟩) 1 1 ∧ B ≤ b ∧ w.heap[b]? = some (.cells #[.string name, .slice none 0 0, .slice none 0 0, .slice none 0 0] 76 (0, 0))
def qRow (B m : Nat) (f : Nat → Value) (x : Value) (w : World) : Prop := Row w B 76 4 x m f
theorem qRow0.kept {B : Nat} {x : Value} {w w' : World} (h : qRow0 B x w) (hb : Below w.heap.size w w') : qRow0 B x w' := let ⟨g, e, hg, ho⟩ := h; ⟨g, e, hg, (hb.block _ (lt_of_block ho)).trans ho⟩
theorem qEl.kept {B : Nat} {name : ByteArray} {x : Value} {w w' : World} (h : qEl B name x w) (hb : Below w.heap.size w w') : qEl B name x w' := let ⟨g, e, hg, ho⟩ := h; ⟨g, e, hg, (hb.block _ (lt_of_block ho)).trans ho⟩
theorem qEl.grown {B g : Nat} {name : ByteArray} {x : Value} {w w' : World} {c : Array Value} (h : qEl B name x w) (hg : w.grownBy w' (some g)) (ho : w.heap[g]? = some (.cells c 76 (0, 0))) (hc : c = #[]) : qEl B name x w' := by
  obtain ⟨b, e, hb, hbz⟩ := h
  exact ⟨b, e, hb, (hg.block b (lt_of_block hbz) (fun e' => by cases e'; rw [hbz, hc] at ho; simp at ho)).trans hbz⟩
theorem own_empty' {w : World} {B g : Nat} (hb : B ≤ g) (h : w.heap[g]? = some (.cells #[] 76 (0, 0))) : Row w B 76 4 (.slice (some ⟨g, 0, none⟩) 0 0) 0 (fun _ => undef) :=
  ⟨by simp, .inr ⟨g, 0, #[], rfl, hb, h, Nat.le_refl _, Nat.zero_le _, rfl, by simp⟩⟩

def con17 (k : Nat) : Nat := if k = 0 then 4 else if k = 4 then 10 else if k = 9 then 10 else if k = 10 then 14 else 99
def rA (B bt n p : Nat) (v vl vr : Value) (name : ByteArray) (f : Nat → Value) (_ : Nat → Bool) (k : Nat) (x : Value) (w : World) : Prop := match k with
  | 0 => qRow0 B x w
  | 1 => x = v
  | 2 => x = .int .i64 (p : Int)
  | 3 => x = vl
  | 4 => qRow B p f x w
  | 5 => x = .pointer (some ⟨bt, 0, none⟩)
  | 6 => x = .string name
  | 7 => x = .agg #[.string name, .slice none 0 0]
  | 8 => x = .agg #[.string name, .slice none 0 0, .slice none 0 0, .slice none 0 0]
  | 9 => qEl B name x w
  | 10 => qRow B (p + 1) (insCell f p (newC name)) x w
  | 11 => x = v
  | 12 => x = .int .i64 (p : Int)
  | 13 => x = vr
  | 14 => qRow B (n + 1) (insCell f p (newC name)) x w
  | 15 => qRow B (n + 1) (insCell f p (newC name)) x w
  | _ => True
theorem rA_kept {B bt n p : Nat} {v vl vr : Value} {name : ByteArray} {f : Nat → Value} {L L' : Nat → Bool} (k : Nat) {x : Value} {w w' : World} (hA : rA B bt n p v vl vr name f L k x w) (hb : Below w.heap.size w w') : rA B bt n p v vl vr name f L' k x w' := by
  unfold rA at *
  split
  · exact hA.kept hb
  · exact hA
  · exact hA
  · exact hA
  · exact Row.kept hA hb
  · exact hA
  · exact hA
  · exact hA
  · exact hA
  · exact hA.kept hb
  · exact Row.kept hA hb
  · exact hA
  · exact hA
  · exact hA
  · exact Row.kept hA hb
  · exact Row.kept hA hb
  · trivial
/-- Behind an append: what does not lie in memory stands; of the rest the caller tells. -/
theorem rA_app {B bt n p : Nat} {v vl vr : Value} {name : ByteArray} {f : Nat → Value} {L L' : Nat → Bool} (k : Nat) {x : Value} {w w' : World} (hA : rA B bt n p v vl vr name f L k x w) (h0 : k = 0 → qRow0 B x w → qRow0 B x w') (h4 : k = 4 → qRow B p f x w → qRow B p f x w') (h9 : k = 9 → qEl B name x w → qEl B name x w') (h10 : k = 10 → qRow B (p + 1) (insCell f p (newC name)) x w → qRow B (p + 1) (insCell f p (newC name)) x w') (h14 : k = 14 ∨ k = 15 → qRow B (n + 1) (insCell f p (newC name)) x w → qRow B (n + 1) (insCell f p (newC name)) x w') : rA B bt n p v vl vr name f L' k x w' := by
  unfold rA at *
  split
  · exact h0 rfl hA
  · exact hA
  · exact hA
  · exact hA
  · exact h4 rfl hA
  · exact hA
  · exact hA
  · exact hA
  · exact hA
  · exact h9 rfl hA
  · exact h10 rfl hA
  · exact hA
  · exact hA
  · exact hA
  · exact h14 (.inl rfl) hA
  · exact h14 (.inr rfl) hA
  · trivial
theorem ins_cells1 (f : Nat → Value) (p : Nat) (name : ByteArray) : (List.range ((p + 1) * 4)).map (insCell f p (newC name)) = (List.range (p * 4)).map f ++ newC name := by
  apply List.ext_getElem?
  intro q
  unfold insCell
  by_cases c1 : q < p * 4
  · rw [List.getElem?_append_left (by simpa using c1)]
    simp [c1, show q < (p + 1) * 4 by omega]
  · rw [List.getElem?_append_right (by simp; omega)]
    simp only [List.length_map, List.length_range]
    by_cases c2 : q < (p + 1) * 4
    · have hl : q - p * 4 < (newC name).length := by show q - p * 4 < 4; omega
      rw [List.getElem?_map, List.getElem?_range c2, List.getElem?_eq_getElem hl]
      simp [c1, show q < p * 4 + 4 by omega, List.getD, hl]
    · rw [List.getElem?_eq_none (by simp; omega), List.getElem?_eq_none (by show 4 ≤ _; omega)]
theorem ins_cells2 (f : Nat → Value) {p n : Nat} (name : ByteArray) (h : p ≤ n) : (List.range ((n + 1) * 4)).map (insCell f p (newC name)) = (List.range ((p + 1) * 4)).map (insCell f p (newC name)) ++ (List.range ((n - p) * 4)).map (fun q => f (p * 4 + q)) := by
  apply List.ext_getElem?
  intro q
  by_cases c1 : q < (p + 1) * 4
  · rw [List.getElem?_append_left (by simpa using c1)]
    simp [c1, show q < (n + 1) * 4 by omega]
  · rw [List.getElem?_append_right (by simp; omega)]
    simp only [List.length_map, List.length_range]
    by_cases c2 : q < (n + 1) * 4
    · rw [List.getElem?_map, List.getElem?_range c2, List.getElem?_map, List.getElem?_range (by omega)]
      unfold insCell
      simp only [Option.map_some, show ¬ q < p * 4 by omega, show ¬ q < p * 4 + 4 by omega, if_false]
      congr 2; omega
    · rw [List.getElem?_eq_none (by simp; omega), List.getElem?_eq_none (by simp; omega)]
/-- out[:p] and out[p:], whatever out is. -/
theorem slice_ops {w : World} {v : Value} {n p : Nat} {f : Nat → Value} (h : Row w 0 76 4 v n f) (hp : p ≤ n) (hn : n ≤ 1000) : ∃ sl cl sr cr,
    (∀ (s : Nat → Value) (wz : World) (o : Oper), o.op = Op.slice 66 (.tmp 85) none (some (.tmp 86)) none → s 85 = v → s 86 = .int .i64 (p : Int) → (execOp (evalS s) o).run Try.prog wz = .ok (.value (.slice sl p cl)) wz) ∧
    (∀ (s : Nat → Value) (wz : World) (o : Oper), o.op = Op.slice 66 (.tmp 95) (some (.tmp 96)) none none → s 95 = v → s 96 = .int .i64 (p : Int) → (execOp (evalS s) o).run Try.prog wz = .ok (.value (.slice sr (n - p) cr)) wz) ∧
    (∀ w', Below w.heap.size w w' → (∀ ad, sl = some ad → ∀ j u, ((List.range (p * 4)).map f)[j]? = some u → w'.cell? (ad.add j) = some u) ∧ (∀ ad, sr = some ad → ∀ j u, ((List.range ((n - p) * 4)).map (fun q => f (p * 4 + q)))[j]? = some u → w'.cell? (ad.add j) = some u)) ∧ (sl = none → p = 0) ∧ (sr = none → n - p = 0) := by
  rcases h.shape with ⟨rfl, rfl⟩ | ⟨g, cap, rfl, -, hc, hcm⟩
  · have hp0 : p = 0 := by omega
    subst hp0
    refine ⟨none, 0, none, 0, fun s wz o ho e1 e2 => ?_, fun s wz o ho e1 e2 => ?_, fun w' _ => ⟨fun ad h => (by cases h), fun ad h => (by cases h)⟩, fun _ => rfl, fun _ => rfl⟩
    · have f1 : evalS s (.tmp 85) = _ := e1
      have f2 : evalS s (.tmp 86) = _ := e2
      simp only [execOp, ho, f1, f2, Option.map_some, Option.map_none]
      go_simp
    · have f1 : evalS s (.tmp 95) = _ := e1
      have f2 : evalS s (.tmp 96) = _ := e2
      simp only [execOp, ho, f1, f2, Option.map_some, Option.map_none]
      go_simp
  · have a1 : (0 : Int) ≤ (p : Int) := by omega
    have a2 : (p : Int) ≤ (n : Int) := by omega
    have a3 : (p : Int) ≤ (cap : Int) := by omega
    have a4 : p ≤ cap := by omega
    by_cases hcp : cap = p
    · refine ⟨some ⟨g, 0, none⟩, cap, some ⟨g, 0, none⟩, cap - p, fun s wz o ho e1 e2 => ?_, fun s wz o ho e1 e2 => ?_, fun w' hb => ⟨fun ad h' j u hu => ?_, fun ad h' j u hu => ?_⟩, fun h' => (by cases h'), fun h' => (by cases h')⟩
      · have f1 : evalS s (.tmp 85) = _ := e1
        have f2 : evalS s (.tmp 86) = _ := e2
        simp only [execOp, ho, f1, f2, Option.map_some, Option.map_none]
        go_simp
      · have f1 : evalS s (.tmp 95) = _ := e1
        have f2 : evalS s (.tmp 96) = _ := e2
        simp only [execOp, ho, f1, f2, Option.map_some, Option.map_none]
        go_simp
      · cases h'
        have hj : j < p * 4 := by have := (List.getElem?_eq_some_iff.1 hu).1; simpa using this
        rw [List.getElem?_map, List.getElem?_range hj] at hu
        rw [WideShapes.add_plain, Nat.zero_add]
        exact (keptCell hb (h.cell (j := j) (by omega))).trans hu
      · have hj : j < (n - p) * 4 := by have := (List.getElem?_eq_some_iff.1 hu).1; simpa using this
        omega
    · refine ⟨some ⟨g, 0, none⟩, cap, some ⟨g, p * 4, none⟩, cap - p, fun s wz o ho e1 e2 => ?_, fun s wz o ho e1 e2 => ?_, fun w' hb => ⟨fun ad h' j u hu => ?_, fun ad h' j u hu => ?_⟩, fun h' => (by cases h'), fun h' => (by cases h')⟩
      · have f1 : evalS s (.tmp 85) = _ := e1
        have f2 : evalS s (.tmp 86) = _ := e2
        simp only [execOp, ho, f1, f2, Option.map_some, Option.map_none]
        go_simp
      · have f1 : evalS s (.tmp 95) = _ := e1
        have f2 : evalS s (.tmp 96) = _ := e2
        simp only [execOp, ho, f1, f2, Option.map_some, Option.map_none]
        go_simp
      · cases h'
        have hj : j < p * 4 := by have := (List.getElem?_eq_some_iff.1 hu).1; simpa using this
        rw [List.getElem?_map, List.getElem?_range hj] at hu
        rw [WideShapes.add_plain, Nat.zero_add]
        exact (keptCell hb (h.cell (j := j) (by omega))).trans hu
      · cases h'
        have hj : j < (n - p) * 4 := by have := (List.getElem?_eq_some_iff.1 hu).1; simpa using this
        rw [List.getElem?_map, List.getElem?_range hj] at hu
        rw [WideShapes.add_plain]
        exact (keptCell hb (h.cell (j := p * 4 + j) (by omega))).trans hu
end Go.Proofs.Ytbnjflajhlnifaa
