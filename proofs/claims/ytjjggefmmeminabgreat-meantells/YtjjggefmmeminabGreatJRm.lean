/- Joined: RmIns, RmTy, RmOwn, RmErr, RmCode. -/
import Derived.Test.YtjjggefmmeminabGreatRmWrong
import Derived.Test.YtjjggefmmeminabGreatMgAll
import Derived.Test.YtjjggefmmeminabGreatRfTypes
import Derived.Test.YtjjggefmmeminabGreatJBase
/-
  'out = append(append(append([]api.Part{}, out[:at]...), api.Part{..}), out[at:]...)': what each operation leaves.
-/
namespace Go.Proofs.YtjjggefmmeminabGreat
open Go.RowKit Go.Sort

def newC (name : ByteArray) : List Value := [.string name, .slice none 0 0, .slice none 0 0, .slice none 0 0]
def qRow0 (B : Nat) (x : Value) (w : World) : Prop := ∃ g, x = .slice (some ⟨g, 0, none⟩) 0 0 ∧ B ≤ g ∧ w.heap[g]? = some (.cells #[] 99 (0, 0))
def qEl (B : Nat) (name : ByteArray) (x : Value) (w : World) : Prop := ∃ b, x = .slice (some ⟨b, 0, none⟩) 1 1 ∧ B ≤ b ∧ w.heap[b]? = some (.cells #[.string name, .slice none 0 0, .slice none 0 0, .slice none 0 0] 99 (0, 0))
def qRow (B m : Nat) (f : Nat → Value) (x : Value) (w : World) : Prop := Row w B 99 4 x m f
theorem qRow0.kept {B : Nat} {x : Value} {w w' : World} (h : qRow0 B x w) (hb : Below w.heap.size w w') : qRow0 B x w' := let ⟨g, e, hg, ho⟩ := h; ⟨g, e, hg, (hb.block _ (lt_of_block ho)).trans ho⟩
theorem qEl.kept {B : Nat} {name : ByteArray} {x : Value} {w w' : World} (h : qEl B name x w) (hb : Below w.heap.size w w') : qEl B name x w' := let ⟨g, e, hg, ho⟩ := h; ⟨g, e, hg, (hb.block _ (lt_of_block ho)).trans ho⟩
theorem qEl.grown {B g : Nat} {name : ByteArray} {x : Value} {w w' : World} {c : Array Value} (h : qEl B name x w) (hg : w.grownBy w' (some g)) (ho : w.heap[g]? = some (.cells c 99 (0, 0))) (hc : c = #[]) : qEl B name x w' := by
  obtain ⟨b, e, hb, hbz⟩ := h
  exact ⟨b, e, hb, (hg.block b (lt_of_block hbz) (fun e' => by cases e'; rw [hbz, hc] at ho; simp at ho)).trans hbz⟩
theorem own_empty' {w : World} {B g : Nat} (hb : B ≤ g) (h : w.heap[g]? = some (.cells #[] 99 (0, 0))) : Row w B 99 4 (.slice (some ⟨g, 0, none⟩) 0 0) 0 (fun _ => undef) :=
  ⟨by simp, .inr ⟨g, 0, #[], rfl, hb, h, Nat.le_refl _, Nat.zero_le _, rfl, by simp⟩⟩

def con17 (k : Nat) : Nat := if k = 0 then 4 else if k = 4 then 10 else if k = 9 then 10 else if k = 10 then 14 else 99
def rA (B bt n p : Nat) (v vl vr : Value) (name : ByteArray) (f : Nat → Value) (_ : Nat → Bool) (k : Nat) (x : Value) (w : World) : Prop := match k with
  | 0 => qRow0 B x w
  | 1 => x = v
  | 2 => x = .int .i64 (p : Int)
  | 3 => x = vl
  | 4 => qRow B p f x w
  | 5 => x = .pointer (some ⟨bt, 0, none⟩)
  | 6 => x = .string name
  | 7 => x = .agg #[.string name, .slice none 0 0]
  | 8 => x = .agg #[.string name, .slice none 0 0, .slice none 0 0, .slice none 0 0]
  | 9 => qEl B name x w
  | 10 => qRow B (p + 1) (insCell f p (newC name)) x w
  | 11 => x = v
  | 12 => x = .int .i64 (p : Int)
  | 13 => x = vr
  | 14 => qRow B (n + 1) (insCell f p (newC name)) x w
  | 15 => qRow B (n + 1) (insCell f p (newC name)) x w
  | _ => True
theorem rA_kept {B bt n p : Nat} {v vl vr : Value} {name : ByteArray} {f : Nat → Value} {L L' : Nat → Bool} (k : Nat) {x : Value} {w w' : World} (hA : rA B bt n p v vl vr name f L k x w) (hb : Below w.heap.size w w') : rA B bt n p v vl vr name f L' k x w' := by
  unfold rA at *
  split
  · exact hA.kept hb
  · exact hA
  · exact hA
  · exact hA
  · exact Row.kept hA hb
  · exact hA
  · exact hA
  · exact hA
  · exact hA
  · exact hA.kept hb
  · exact Row.kept hA hb
  · exact hA
  · exact hA
  · exact hA
  · exact Row.kept hA hb
  · exact Row.kept hA hb
  · trivial
/-- Behind an append: what does not lie in memory stands; of the rest the caller tells. -/
theorem rA_app {B bt n p : Nat} {v vl vr : Value} {name : ByteArray} {f : Nat → Value} {L L' : Nat → Bool} (k : Nat) {x : Value} {w w' : World} (hA : rA B bt n p v vl vr name f L k x w) (h0 : k = 0 → qRow0 B x w → qRow0 B x w') (h4 : k = 4 → qRow B p f x w → qRow B p f x w') (h9 : k = 9 → qEl B name x w → qEl B name x w') (h10 : k = 10 → qRow B (p + 1) (insCell f p (newC name)) x w → qRow B (p + 1) (insCell f p (newC name)) x w') (h14 : k = 14 ∨ k = 15 → qRow B (n + 1) (insCell f p (newC name)) x w → qRow B (n + 1) (insCell f p (newC name)) x w') : rA B bt n p v vl vr name f L' k x w' := by
  unfold rA at *
  split
  · exact h0 rfl hA
  · exact hA
  · exact hA
  · exact hA
  · exact h4 rfl hA
  · exact hA
  · exact hA
  · exact hA
  · exact hA
  · exact h9 rfl hA
  · exact h10 rfl hA
  · exact hA
  · exact hA
  · exact hA
  · exact h14 (.inl rfl) hA
  · exact h14 (.inr rfl) hA
  · trivial
theorem ins_cells1 (f : Nat → Value) (p : Nat) (name : ByteArray) : (List.range ((p + 1) * 4)).map (insCell f p (newC name)) = (List.range (p * 4)).map f ++ newC name := by
  apply List.ext_getElem?
  intro q
  unfold insCell
  by_cases c1 : q < p * 4
  · rw [List.getElem?_append_left (by simpa using c1)]
    simp [c1, show q < (p + 1) * 4 by omega]
  · rw [List.getElem?_append_right (by simp; omega)]
    simp only [List.length_map, List.length_range]
    by_cases c2 : q < (p + 1) * 4
    · have hl : q - p * 4 < (newC name).length := by show q - p * 4 < 4; omega
      rw [List.getElem?_map, List.getElem?_range c2, List.getElem?_eq_getElem hl]
      simp [c1, show q < p * 4 + 4 by omega, List.getD, hl]
    · rw [List.getElem?_eq_none (by simp; omega), List.getElem?_eq_none (by show 4 ≤ _; omega)]
theorem ins_cells2 (f : Nat → Value) {p n : Nat} (name : ByteArray) (h : p ≤ n) : (List.range ((n + 1) * 4)).map (insCell f p (newC name)) = (List.range ((p + 1) * 4)).map (insCell f p (newC name)) ++ (List.range ((n - p) * 4)).map (fun q => f (p * 4 + q)) := by
  apply List.ext_getElem?
  intro q
  by_cases c1 : q < (p + 1) * 4
  · rw [List.getElem?_append_left (by simpa using c1)]
    simp [c1, show q < (n + 1) * 4 by omega]
  · rw [List.getElem?_append_right (by simp; omega)]
    simp only [List.length_map, List.length_range]
    by_cases c2 : q < (n + 1) * 4
    · rw [List.getElem?_map, List.getElem?_range c2, List.getElem?_map, List.getElem?_range (by omega)]
      unfold insCell
      simp only [Option.map_some, show ¬ q < p * 4 by omega, show ¬ q < p * 4 + 4 by omega, if_false]
      congr 2; omega
    · rw [List.getElem?_eq_none (by simp; omega), List.getElem?_eq_none (by simp; omega)]
/-- out[:p] and out[p:], whatever out is. -/
theorem slice_ops {w : World} {v : Value} {n p : Nat} {f : Nat → Value} (h : Row w 0 99 4 v n f) (hp : p ≤ n) (hn : n ≤ 1000) : ∃ sl cl sr cr,
    (∀ (s : Nat → Value) (wz : World) (o : Oper), o.op = Op.slice 37 (.tmp 85) none (some (.tmp 86)) none → s 85 = v → s 86 = .int .i64 (p : Int) → (execOp (evalS s) o).run Tryz.prog wz = .ok (.value (.slice sl p cl)) wz) ∧
    (∀ (s : Nat → Value) (wz : World) (o : Oper), o.op = Op.slice 37 (.tmp 95) (some (.tmp 96)) none none → s 95 = v → s 96 = .int .i64 (p : Int) → (execOp (evalS s) o).run Tryz.prog wz = .ok (.value (.slice sr (n - p) cr)) wz) ∧
    (∀ w', Below w.heap.size w w' → (∀ ad, sl = some ad → ∀ j u, ((List.range (p * 4)).map f)[j]? = some u → w'.cell? (ad.add j) = some u) ∧ (∀ ad, sr = some ad → ∀ j u, ((List.range ((n - p) * 4)).map (fun q => f (p * 4 + q)))[j]? = some u → w'.cell? (ad.add j) = some u)) ∧ (sl = none → p = 0) ∧ (sr = none → n - p = 0) := by
  rcases h.shape with ⟨rfl, rfl⟩ | ⟨g, cap, rfl, -, hc, hcm⟩
  · have hp0 : p = 0 := by omega
    subst hp0
    refine ⟨none, 0, none, 0, fun s wz o ho e1 e2 => ?_, fun s wz o ho e1 e2 => ?_, fun w' _ => ⟨fun ad h => (by cases h), fun ad h => (by cases h)⟩, fun _ => rfl, fun _ => rfl⟩
    · have f1 : evalS s (.tmp 85) = _ := e1
      have f2 : evalS s (.tmp 86) = _ := e2
      simp only [execOp, ho, f1, f2, Option.map_some, Option.map_none]
      go_simp
    · have f1 : evalS s (.tmp 95) = _ := e1
      have f2 : evalS s (.tmp 96) = _ := e2
      simp only [execOp, ho, f1, f2, Option.map_some, Option.map_none]
      go_simp
  · have a1 : (0 : Int) ≤ (p : Int) := by omega
    have a2 : (p : Int) ≤ (n : Int) := by omega
    have a3 : (p : Int) ≤ (cap : Int) := by omega
    have a4 : p ≤ cap := by omega
    by_cases hcp : cap = p
    · refine ⟨some ⟨g, 0, none⟩, cap, some ⟨g, 0, none⟩, cap - p, fun s wz o ho e1 e2 => ?_, fun s wz o ho e1 e2 => ?_, fun w' hb => ⟨fun ad h' j u hu => ?_, fun ad h' j u hu => ?_⟩, fun h' => (by cases h'), fun h' => (by cases h')⟩
      · have f1 : evalS s (.tmp 85) = _ := e1
        have f2 : evalS s (.tmp 86) = _ := e2
        simp only [execOp, ho, f1, f2, Option.map_some, Option.map_none]
        go_simp
      · have f1 : evalS s (.tmp 95) = _ := e1
        have f2 : evalS s (.tmp 96) = _ := e2
        simp only [execOp, ho, f1, f2, Option.map_some, Option.map_none]
        go_simp
      · cases h'
        have hj : j < p * 4 := by have := (List.getElem?_eq_some_iff.1 hu).1; simpa using this
        rw [List.getElem?_map, List.getElem?_range hj] at hu
        rw [WideShapes.add_plain, Nat.zero_add]
        exact (keptCell hb (h.cell (j := j) (by omega))).trans hu
      · have hj : j < (n - p) * 4 := by have := (List.getElem?_eq_some_iff.1 hu).1; simpa using this
        omega
    · refine ⟨some ⟨g, 0, none⟩, cap, some ⟨g, p * 4, none⟩, cap - p, fun s wz o ho e1 e2 => ?_, fun s wz o ho e1 e2 => ?_, fun w' hb => ⟨fun ad h' j u hu => ?_, fun ad h' j u hu => ?_⟩, fun h' => (by cases h'), fun h' => (by cases h')⟩
      · have f1 : evalS s (.tmp 85) = _ := e1
        have f2 : evalS s (.tmp 86) = _ := e2
        simp only [execOp, ho, f1, f2, Option.map_some, Option.map_none]
        go_simp
      · have f1 : evalS s (.tmp 95) = _ := e1
        have f2 : evalS s (.tmp 96) = _ := e2
        simp only [execOp, ho, f1, f2, Option.map_some, Option.map_none]
        go_simp
      · cases h'
        have hj : j < p * 4 := by have := (List.getElem?_eq_some_iff.1 hu).1; simpa using this
        rw [List.getElem?_map, List.getElem?_range hj] at hu
        rw [WideShapes.add_plain, Nat.zero_add]
        exact (keptCell hb (h.cell (j := j) (by omega))).trans hu
      · cases h'
        have hj : j < (n - p) * 4 := by have := (List.getElem?_eq_some_iff.1 hu).1; simpa using this
        rw [List.getElem?_map, List.getElem?_range hj] at hu
        rw [WideShapes.add_plain]
        exact (keptCell hb (h.cell (j := p * 4 + j) (by omega))).trans hu
end Go.Proofs.YtjjggefmmeminabGreat

/-
  A type that stitchref1 sees, as it lies in memory when all services' schemas are put together.
-/
namespace Go.Proofs.YtjjggefmmeminabGreat
open Go.RowKit Go.Sort

structure TyAt (w : World) (bs : Nat) (s : LServ) (a2 a3 : Option Addr) (j : Nat) (A : Option Addr) (Cp : Nat) (S : PSeen) : Prop where
  box : w.heap[bs]? = some (.cells #[.slice s.ta s.nt s.tcap, .slice s.ca s.nc s.ccap, .slice s.xa s.nx s.xcap] 81 (0, 0))
  own : ∃ b o, s.ta = some ⟨b, o, none⟩ ∧ w.cell? ⟨b, o + j * 2, none⟩ = some (.string S.own)
  typ : ∃ g, a2 = some ⟨g, 0, none⟩ ∧ w.cell? ⟨g, j * 2, none⟩ = some (.string S.name) ∧ w.cell? ⟨g, j * 2 + 1, none⟩ = some (.slice A S.nf Cp)
  fld : FieldsAt w A S.nf S.F
  txt : ∃ g o c, a3 = some ⟨g, 0, none⟩ ∧ w.cell? ⟨g, j, none⟩ = some (.slice o S.nf c) ∧ KeysAt w o S.nf S.O
theorem TyAt.kept {w w' : World} {bs : Nat} {s : LServ} {a2 a3 : Option Addr} {j : Nat} {A : Option Addr} {Cp : Nat} {S : PSeen} (h : TyAt w bs s a2 a3 j A Cp S) (hb : Below w.heap.size w w') : TyAt w' bs s a2 a3 j A Cp S := by
  obtain ⟨b, o, e, c⟩ := h.own
  obtain ⟨g, e2, c2, c3⟩ := h.typ
  obtain ⟨g3, o3, d3, e3, c4, hk⟩ := h.txt
  exact ⟨(hb.block _ (lt_of_block h.box)).trans h.box, ⟨b, o, e, keptCell hb c⟩, ⟨g, e2, keptCell hb c2, keptCell hb c3⟩, h.fld.kept hb, ⟨g3, o3, d3, e3, keptCell hb c4, hk.kept hb⟩⟩

theorem ty_at {B w' : World} {b0 bs : Nat} {s : LServ} {a2 a3 : Option Addr} {c2 c3 : Nat} {A : Nat → Option Addr} {Cp : Nat → Nat} {NV : Nat → Value} {txt : Nat → Nat → ByteArray}
    (hb0 : bs ≤ b0) (hbox : B.heap[bs]? = some (.cells #[.slice s.ta s.nt s.tcap, .slice s.ca s.nc s.ccap, .slice s.xa s.nx s.xcap] 81 (0, 0)))
    (hT : TypesAt w' s.ta s.nt s.T) (hRel : Rel s.nt s.T (seenS s) txt) (hgood : ∀ i, i < s.nt → GoodS (seenS s i))
    (rT : Row B b0 96 2 (.slice a2 s.nt c2) s.nt (typeCell (typR s.nt s.T txt A Cp))) (rF : ∀ i, i < s.nt → Row B b0 113 3 (.slice (A i) (visL s.T txt i).length (Cp i)) (visL s.T txt i).length (fieldCell (fun q => mkF s.nt s.T txt i ((visL s.T txt i).getD q 0))))
    (rN : Row B b0 65 1 (.slice a3 s.nt c3) s.nt NV) (rO : ∀ i, i < s.nt → Row B b0 9 1 (NV i) (visL s.T txt i).length (textCell (fun q => ((s.T i).F ((visL s.T txt i).getD q 0)).name)))
    (hk : ∀ b, bs ≤ b → b < B.heap.size → w'.heap[b]? = B.heap[b]?) : ∀ j, j < s.nt → TyAt w' bs s a2 a3 j (A j) (Cp j) (seenS s j) := fun j hj => by
  have at' : ∀ {e size m : Nat} {u : Value} {f : Nat → Value}, Row B b0 e size u m f → Row w' b0 e size u m f := fun hr => hr.at fun k hk' => hk k (Nat.le_trans hb0 (hr.lt hk').1) (hr.lt hk').2
  have hnf := hRel.nf j hj
  have hgd := hgood j hj
  refine ⟨(hk bs (Nat.le_refl _) (lt_of_block hbox)).trans hbox, ?_, ?_, ?_, ?_⟩
  · obtain ⟨b, o, e, c, -⟩ := hT.2 j hj
    exact ⟨b, o, e, by rw [hRel.own j hj]; exact c⟩
  · have r := at' rT
    rcases r.shape with ⟨-, h0⟩ | ⟨g, cap, hv, -, -, -⟩
    · omega
    cases hv
    refine ⟨g, rfl, ?_, ?_⟩
    · rw [r.cell (j := j * 2) (by omega)]
      unfold typeCell
      rw [if_pos (by omega), show j * 2 / 2 = j by omega, hRel.name j hj]; rfl
    · rw [r.cell (j := j * 2 + 1) (by omega)]
      unfold typeCell
      rw [if_neg (by omega), show (j * 2 + 1) / 2 = j by omega, hnf]; rfl
  · have r := at' (rF j hj)
    rw [← hnf] at r
    have r' : Row w' b0 113 3 (.slice (A j) (seenS s j).nf (Cp j)) (seenS s j).nf (fieldCell (seenS s j).F) := r.congr fun q hq => by
      have e := hRel.F j hj (q / 3) (by omega)
      unfold fieldCell
      rw [e]
    obtain ⟨a9, c9, e9, -, hF⟩ := r'.fieldsAt hgd.2.2.1 hgd.2.2.2.1
    cases e9
    exact hF
  · have r := at' rN
    rcases r.shape with ⟨-, h0⟩ | ⟨g, cap, hv, -, -, -⟩
    · omega
    cases hv
    have r2 := at' (rO j hj)
    rw [← hnf] at r2
    have r3 : Row w' b0 9 1 (NV j) (seenS s j).nf (textCell (seenS s j).O) := r2.congr fun q hq => by
      have e := hRel.O j hj q (by omega)
      unfold textCell
      rw [e]
    obtain ⟨a9, c9, e9, -, hK⟩ := r3.keysAt hgd.2.2.1 hgd.2.2.2.2
    exact ⟨g, a9, c9, rfl, by rw [r.cell (j := j) (by omega), e9], hK⟩

theorem named_small {s : ByteArray} (h : named s = true) : Small s := by
  by_cases h12 : 12 < s.size
  · unfold named at h; simp [h12] at h
  · unfold Small maxLen; omega
/-- What is seen of a service that is right is good. -/
theorem seen_good {w : World} {s : LServ} (hs : ServOk w s) (hok : (seeE s).1 = 0) : ∀ i, i < s.nt → GoodS (seenS s i) := fun i hi => by
  have hR0 := seeF_right hok
  have hRS : RightS s.nt (seenS s) := right_run hR0 s.nc
  have hRel : Rel s.nt s.T (seenS s) (runR s.nt (initLen s.nt s.T) (initTxt s.T) s.C s.nc) := rel_run (C := s.C) hR0 s.nc
  have hf := hRS.fld i hi
  obtain ⟨_, _, _, _, _, _, hsn, hF⟩ := hs.types.2 i hi
  have hnf : (seenS s i).nf ≤ 10 := hf.few
  refine ⟨named_small (hRS.nam i hi), by rw [hRel.own i hi]; exact hsn, by unfold maxLen; omega, fun j hj => ?_, fun j hj => ?_⟩
  · refine ⟨named_small (hf.nam j hj), ?_, ?_⟩
    · rcases hf.fit j hj with ⟨-, h2⟩ | ⟨-, k, hk, e⟩
      · have h3 : ((seenS s i).F j).type.size = 0 := h2
        unfold Small; rw [h3]; exact Nat.zero_le _
      · have h3 := named_small (hRS.nam k hk)
        have e' : (seenS s k).name = ((seenS s i).F j).type := e
        rw [← e']; exact h3
    · rcases hf.fit j hj with ⟨h1, -⟩ | ⟨h1, -⟩
      · have h2 : ((seenS s i).F j).kind = 1 := h1
        rw [h2]; rfl
      · have h2 : ((seenS s i).F j).kind = 2 ∨ ((seenS s i).F j).kind = 3 := h1
        rcases h2 with h2 | h2 <;> rw [h2] <;> rfl
  · have hO := hRel.O i hi j hj
    have hO' : (seenS s i).O j = ((s.T i).F ((visL s.T (runR s.nt (initLen s.nt s.T) (initTxt s.T) s.C s.nc) i).getD j 0)).name := hO
    rw [hO']
    have hnf' := hRel.nf i hi
    have hlt : j < (visL s.T (runR s.nt (initLen s.nt s.T) (initTxt s.T) s.C s.nc) i).length := by rw [← hnf']; exact hj
    obtain ⟨_, _, _, _, _, _, hsm, _⟩ := hF.2 _ (vis_at hlt).1
    exact hsm
end Go.Proofs.YtjjggefmmeminabGreat

/-
  'p.Owners = append(p.Owners, api.Owner{Service: i, Type: s.Types[j].Name, Field: own[j][k]})' in stitchref1.All, in whatever order.
-/
namespace Go.Proofs.YtjjggefmmeminabGreat
open Go.RowKit Go.Sort Go.PlainAid

/-- The statement's operations, as the translation has them. -/
def own26 : List Oper := [
  { dst := some 149, op := Op.move (Operand.tmp 15), type := 50, pos := "ref.go:313", after := #[], guard := none },
   { dst := some 150, op := Op.move (Operand.tmp 15), type := 50, pos := "ref.go:313", after := #[], guard := none },
   { dst := some 151, op := Op.nilCheck (Operand.tmp 150), type := 0, pos := "ref.go:313", after := #[{ on := 1, ground := Ground.data }], guard := none },
   { dst := some 152, op := Op.fieldAddr 99 (Operand.tmp 151) 1, type := 0, pos := "ref.go:313", after := #[{ on := 2, ground := Ground.data }], guard := none },
   { dst := some 153, op := Op.load 97 (Operand.tmp 152), type := 97, pos := "ref.go:313", after := #[{ on := 3, ground := Ground.data }], guard := none },
   { dst := some 154, op := Op.move (Operand.tmp 6), type := 3, pos := "ref.go:313", after := #[], guard := none },
   { dst := some 155, op := Op.fieldAddr 81 (Operand.tmp 7) 0, type := 0, pos := "ref.go:313", after := #[], guard := none },
   { dst := some 156, op := Op.load 77 (Operand.tmp 155), type := 77, pos := "ref.go:313", after := #[{ on := 6, ground := Ground.data }], guard := none },
   { dst := some 157, op := Op.move (Operand.tmp 12), type := 3, pos := "ref.go:313", after := #[], guard := none },
   { dst := some 158, op := Op.indexAddr 77 (Operand.tmp 156) (Operand.tmp 157), type := 0, pos := "ref.go:313", after := #[{ on := 7, ground := Ground.data }, { on := 8, ground := Ground.data }], guard := none },
   { dst := some 159, op := Op.fieldAddr 96 (Operand.tmp 158) 0, type := 0, pos := "ref.go:313", after := #[{ on := 9, ground := Ground.data }], guard := none },
   { dst := some 160, op := Op.load 9 (Operand.tmp 159), type := 9, pos := "ref.go:313", after := #[{ on := 10, ground := Ground.data }], guard := none },
   { dst := some 161, op := Op.move (Operand.tmp 11), type := 105, pos := "ref.go:313", after := #[], guard := none },
   { dst := some 162, op := Op.move (Operand.tmp 12), type := 3, pos := "ref.go:313", after := #[], guard := none },
   { dst := some 163, op := Op.indexAddr 105 (Operand.tmp 161) (Operand.tmp 162), type := 0, pos := "ref.go:313", after := #[{ on := 12, ground := Ground.data }, { on := 13, ground := Ground.data }], guard := none },
   { dst := some 164, op := Op.load 65 (Operand.tmp 163), type := 65, pos := "ref.go:313", after := #[{ on := 14, ground := Ground.data }], guard := none },
   { dst := some 165, op := Op.move (Operand.tmp 16), type := 3, pos := "ref.go:313", after := #[], guard := none },
   { dst := some 166, op := Op.indexAddr 65 (Operand.tmp 164) (Operand.tmp 165), type := 0, pos := "ref.go:313", after := #[{ on := 15, ground := Ground.data }, { on := 16, ground := Ground.data }], guard := none },
   { dst := some 167, op := Op.load 9 (Operand.tmp 166), type := 9, pos := "ref.go:313", after := #[{ on := 17, ground := Ground.data }], guard := none },
   { dst := some 168, op := Op.build 92 #[(0, Operand.tmp 154), (1, Operand.tmp 160), (2, Operand.tmp 167)], type := 92, pos := "ref.go:313", after := #[{ on := 5, ground := Ground.data }, { on := 11, ground := Ground.data }, { on := 18, ground := Ground.data }], guard := none },
   { dst := some 169, op := Op.buildSlice 97 1 #[(0, Operand.tmp 168)], type := 97, pos := "ref.go:313", after := #[{ on := 19, ground := Ground.data }], guard := none },
   { dst := some 170, op := Op.call { callee := Callee.builtin Builtin.append, args := #[Operand.tmp 153, Operand.tmp 169], argTypes := #[97, 97] }, type := 97, pos := "ref.go:313", after := #[{ on := 4, ground := Ground.data }, { on := 20, ground := Ground.data }], guard := none },
   { dst := some 171, op := Op.nilCheck (Operand.tmp 149), type := 0, pos := "ref.go:313", after := #[{ on := 0, ground := Ground.data }, { on := 0, ground := Ground.phase }, { on := 1, ground := Ground.phase }, { on := 2, ground := Ground.phase }, { on := 3, ground := Ground.phase }, { on := 4, ground := Ground.phase }, { on := 5, ground := Ground.phase }, { on := 6, ground := Ground.phase }, { on := 7, ground := Ground.phase }, { on := 8, ground := Ground.phase }, { on := 9, ground := Ground.phase }, { on := 10, ground := Ground.phase }, { on := 11, ground := Ground.phase }, { on := 12, ground := Ground.phase }, { on := 13, ground := Ground.phase }, { on := 14, ground := Ground.phase }, { on := 15, ground := Ground.phase }, { on := 16, ground := Ground.phase }, { on := 17, ground := Ground.phase }, { on := 18, ground := Ground.phase }, { on := 19, ground := Ground.phase }, { on := 20, ground := Ground.phase }, { on := 21, ground := Ground.phase }], guard := none },
   { dst := some 172, op := Op.fieldAddr 99 (Operand.tmp 171) 1, type := 0, pos := "ref.go:313", after := #[{ on := 22, ground := Ground.data }, { on := 0, ground := Ground.phase }, { on := 1, ground := Ground.phase }, { on := 2, ground := Ground.phase }, { on := 3, ground := Ground.phase }, { on := 4, ground := Ground.phase }, { on := 5, ground := Ground.phase }, { on := 6, ground := Ground.phase }, { on := 7, ground := Ground.phase }, { on := 8, ground := Ground.phase }, { on := 9, ground := Ground.phase }, { on := 10, ground := Ground.phase }, { on := 11, ground := Ground.phase }, { on := 12, ground := Ground.phase }, { on := 13, ground := Ground.phase }, { on := 14, ground := Ground.phase }, { on := 15, ground := Ground.phase }, { on := 16, ground := Ground.phase }, { on := 17, ground := Ground.phase }, { on := 18, ground := Ground.phase }, { on := 19, ground := Ground.phase }, { on := 20, ground := Ground.phase }, { on := 21, ground := Ground.phase }], guard := none },
   { dst := none, op := Op.store 97 (Operand.tmp 172) (Operand.tmp 170), type := 0, pos := "ref.go:313", after := #[{ on := 23, ground := Ground.data }, { on := 21, ground := Ground.data }, { on := 21, ground := Ground.chain }, { on := 0, ground := Ground.phase }, { on := 1, ground := Ground.phase }, { on := 2, ground := Ground.phase }, { on := 3, ground := Ground.phase }, { on := 4, ground := Ground.phase }, { on := 5, ground := Ground.phase }, { on := 6, ground := Ground.phase }, { on := 7, ground := Ground.phase }, { on := 8, ground := Ground.phase }, { on := 9, ground := Ground.phase }, { on := 10, ground := Ground.phase }, { on := 11, ground := Ground.phase }, { on := 12, ground := Ground.phase }, { on := 13, ground := Ground.phase }, { on := 14, ground := Ground.phase }, { on := 15, ground := Ground.phase }, { on := 16, ground := Ground.phase }, { on := 17, ground := Ground.phase }, { on := 18, ground := Ground.phase }, { on := 19, ground := Ground.phase }, { on := 20, ground := Ground.phase }, { on := 21, ground := Ground.phase }], guard := none }]

def con26 (k : Nat) : Nat := if k = 20 then 21 else if k = 21 then 24 else 99
/-- What the append leaves. -/
def R26 (w5 : World) (n : Nat) (xs news : List Value) (old v : Value) (w : World) : Prop := ∃ X, Below w5.heap.size w5 X ∧ w.ownsRow 0 92 3 v (n + 1) (xs ++ news) ∧ X.grownBy w old.ownBlock ∧ (v.ownBlock = old.ownBlock ∨ v.ownBlock = some X.heap.size)
def oA (w5 : World) (gj o2 n : Nat) (xs news : List Value) (old : Value) (vals : List Value) (_ : Nat → Bool) (k : Nat) (x : Value) (w : World) : Prop :=
  if k = 20 then ∃ b, x = .slice (some ⟨b, 0, none⟩) 1 1 ∧ w.heap[b]? = some (.cells news.toArray 92 (0, 0)) else
  if k = 21 then R26 w5 n xs news old x w else
  if k = 24 then ∃ w' v', R26 w5 n xs news old v' w' ∧ w = w'.setCell ⟨gj, o2, none⟩ v' else x = vals.getD k undef
theorem oA_pure {w5 : World} {gj o2 n : Nat} {xs news : List Value} {old : Value} {vals : List Value} {L L' : Nat → Bool} {k : Nat} {x : Value} {w w' : World} (h0 : k ≠ 20) (h1 : k ≠ 21) (h2 : k ≠ 24) (h : oA w5 gj o2 n xs news old vals L k x w) : oA w5 gj o2 n xs news old vals L' k x w' := by
  unfold oA at *
  rw [if_neg h0, if_neg h1, if_neg h2] at *
  exact h

set_option maxRecDepth 100000 in
set_option maxHeartbeats 4000000 in
theorem owners_region {Q : Exit → Act → World → Prop} {a0 : Act} {w5 : World} {gj tt n d2 bs ob oo m nt tcap tg to5 k3 nb no q nf tc : Nat} {k : Int} {b2 : Option Addr} {ownN oq : ByteArray} {f : Nat → Value} {iO : TypeInfo}
    (oi : Tryz.prog.info? 92 = some iO) (oz0 : iO.zero = some (.agg #[.int .i64 0, .string ⟨#[]⟩, .string ⟨#[]⟩])) (oz1 : iO.size = 3) (oz2 : iO.bytes = 40)
    (hsz : [149, 150, 151, 152, 153, 154, 155, 156, 157, 158, 159, 160, 161, 162, 163, 164, 165, 166, 167, 168, 169, 170, 171, 172].all (fun d => decide (d < a0.tmps.size)) = true)
    (s15 : slots a0 15 = .pointer (some ⟨gj, tt * 4, none⟩)) (s6 : slots a0 6 = .int .i64 k) (s7 : slots a0 7 = .pointer (some ⟨bs, 0, none⟩)) (s12 : slots a0 12 = .int .i64 (m : Int)) (s11 : slots a0 11 = .slice (some ⟨tg, to5, none⟩) nt k3) (s16 : slots a0 16 = .int .i64 (q : Int))
    (hmt : m < nt) (hqf : q < nf) (hn : n ≤ 1000) (hR : Row w5 0 92 3 (.slice b2 n d2) n f)
    (c2 : w5.cell? ⟨gj, tt * 4 + 2, none⟩ = some (.slice b2 n d2)) (cs : w5.cell? ⟨bs, 0, none⟩ = some (.slice (some ⟨ob, oo, none⟩) nt tcap)) (co : w5.cell? ⟨ob, oo + m * 2, none⟩ = some (.string ownN))
    (ct : w5.cell? ⟨tg, to5 + m, none⟩ = some (.slice (some ⟨nb, no, none⟩) nf tc)) (cq : w5.cell? ⟨nb, no + q, none⟩ = some (.string oq))
    (hst : ∀ v' w', R26 w5 n ((List.range (n * 3)).map f) [.int .i64 k, .string ownN, .string oq] (.slice b2 n d2) v' w' → (∃ u, w'.cell? ⟨gj, tt * 4 + 2, none⟩ = some u) ∧ w'.frozen? ⟨gj, tt * 4 + 2, none⟩ = false)
    (hQ : ∀ s w' v', R26 w5 n ((List.range (n * 3)).map f) [.int .i64 k, .string ownN, .string oq] (.slice b2 n d2) v' w' → Q .normal (putAll a0 s [149, 150, 151, 152, 153, 154, 155, 156, 157, 158, 159, 160, 161, 162, 163, 164, 165, 166, 167, 168, 169, 170, 171, 172]) (w'.setCell ⟨gj, tt * 4 + 2, none⟩ v')) :
    (Code.region 26 own26.toArray true).wp Tryz.prog Q a0 w5 := by
  have hm1 : (m : Int) < (nt : Int) := by omega
  have hm0 : (0 : Int) ≤ (m : Int) := by omega
  have hq1 : (q : Int) < (nf : Int) := by omega
  have hq0 : (0 : Int) ≤ (q : Int) := by omega
  refine wp_region_as (by kernel_rfl) (by kernel_rfl) [149, 150, 151, 152, 153, 154, 155, 156, 157, 158, 159, 160, 161, 162, 163, 164, 165, 166, 167, 168, 169, 170, 171, 172] (by kernel_rfl) hsz (by kernel_rfl) con26 (oA w5 gj (tt * 4 + 2) n ((List.range (n * 3)).map f) [.int .i64 k, .string ownN, .string oq] (.slice b2 n d2) [Value.pointer (some ⟨gj, tt * 4, none⟩), Value.pointer (some ⟨gj, tt * 4, none⟩), Value.pointer (some ⟨gj, tt * 4, none⟩), Value.pointer (some ⟨gj, tt * 4 + 2, none⟩), .slice b2 n d2, .int .i64 k, Value.pointer (some ⟨bs, 0, none⟩), .slice (some ⟨ob, oo, none⟩) nt tcap, .int .i64 (m : Int), Value.pointer (some ⟨ob, oo + m * 2, none⟩), Value.pointer (some ⟨ob, oo + m * 2, none⟩), .string ownN, .slice (some ⟨tg, to5, none⟩) nt k3, .int .i64 (m : Int), Value.pointer (some ⟨tg, to5 + m, none⟩), .slice (some ⟨nb, no, none⟩) nf tc, .int .i64 (q : Int), Value.pointer (some ⟨nb, no + q, none⟩), .string oq, .agg #[.int .i64 k, .string ownN, .string oq], undef, undef, Value.pointer (some ⟨gj, tt * 4, none⟩), Value.pointer (some ⟨gj, tt * 4 + 2, none⟩)]) (fun L _ w => L 21 = false → Below w5.heap.size w5 w) (fun _ => (Below.refl _ _).drew) ?_ ?_
  · intro L st wz i o hG hL hcl hA hF hi' hl ha
    have h99 : L 99 = false := by
      cases h : L 99 with
      | false => rfl
      | true => exact absurd (hL 99 h) (by decide)
    have down : ∀ j, j ≠ 21 → also L j 21 = false → L 21 = false := fun j hj h => by
      unfold also at h; simpa [Ne.symm hj] using h
    have u4 : L 21 = true → L 4 = true := fun h => hcl 21 _ h rfl { on := 4, ground := .data } (by simp) rfl
    have u20 : L 21 = true → L 20 = true := fun h => hcl 21 _ h rfl { on := 20, ground := .data } (by simp) rfl
    have u19 : L 20 = true → L 19 = true := fun h => hcl 20 _ h rfl { on := 19, ground := .data } (by simp) rfl
    have u11 : L 19 = true → L 11 = true := fun h => hcl 19 _ h rfl { on := 11, ground := .data } (by simp) rfl
    have u18 : L 19 = true → L 18 = true := fun h => hcl 19 _ h rfl { on := 18, ground := .data } (by simp) rfl
    have u10 : L 11 = true → L 10 = true := fun h => hcl 11 _ h rfl { on := 10, ground := .data } (by simp) rfl
    have u9 : L 10 = true → L 9 = true := fun h => hcl 10 _ h rfl { on := 9, ground := .data } (by simp) rfl
    have u7 : L 9 = true → L 7 = true := fun h => hcl 9 _ h rfl { on := 7, ground := .data } (by simp) rfl
    have u17 : L 18 = true → L 17 = true := fun h => hcl 18 _ h rfl { on := 17, ground := .data } (by simp) rfl
    have u15 : L 17 = true → L 15 = true := fun h => hcl 17 _ h rfl { on := 15, ground := .data } (by simp) rfl
    have u21 : L 24 = true → L 21 = true := fun h => hcl 24 _ h rfl { on := 21, ground := .data } (by simp) rfl
    have at21 : ∀ j, (L 21 = true → L j = true) → L j = false → L 21 = false := fun j hj h => by
      cases h21 : L 21 with
      | false => rfl
      | true => rw [hj h21] at h; cases h
    obtain _ | i := i
    · obtain rfl := Option.some.inj hi'
      have e1 : st 15 = Value.pointer (some ⟨gj, tt * 4, none⟩) := (hF 15 (by decide)).trans s15
      exact opStep_value (v := st 15) (w' := wz) rfl ⟨fun h => hG (down 0 (by decide) h), e1, fun k _ _ _ h => h⟩
    obtain _ | i := i
    · obtain rfl := Option.some.inj hi'
      have e1 : st 15 = Value.pointer (some ⟨gj, tt * 4, none⟩) := (hF 15 (by decide)).trans s15
      exact opStep_value (v := st 15) (w' := wz) rfl ⟨fun h => hG (down 1 (by decide) h), e1, fun k _ _ _ h => h⟩
    obtain _ | i := i
    · obtain rfl := Option.some.inj hi'
      have e1 : st 150 = Value.pointer (some ⟨gj, tt * 4, none⟩) := hA 1 (ha { on := 1, ground := .data } (by simp) rfl) h99
      refine opStep_value (v := Value.pointer (some ⟨gj, tt * 4, none⟩)) (w' := wz) ?_ ⟨fun h => hG (down 2 (by decide) h), rfl, fun k _ _ _ h => h⟩
      simp only [execOp, evalS, e1]
      go_simp
    obtain _ | i := i
    · obtain rfl := Option.some.inj hi'
      have e1 : st 151 = Value.pointer (some ⟨gj, tt * 4, none⟩) := hA 2 (ha { on := 2, ground := .data } (by simp) rfl) h99
      refine opStep_value (v := Value.pointer (some ⟨gj, tt * 4 + 2, none⟩)) (w' := wz) ?_ ⟨fun h => hG (down 3 (by decide) h), rfl, fun k _ _ _ h => h⟩
      simp only [execOp, evalS, e1]
      go_simp
    obtain _ | i := i
    · obtain rfl := Option.some.inj hi'
      have e1 : st 152 = Value.pointer (some ⟨gj, tt * 4 + 2, none⟩) := hA 3 (ha { on := 3, ground := .data } (by simp) rfl) h99
      have cz := keptCell (hG (at21 4 (u4) hl)) c2
      refine opStep_value (v := .slice b2 n d2) (w' := wz) ?_ ⟨fun h => hG (down 4 (by decide) h), rfl, fun k _ _ _ h => h⟩
      simp only [execOp, evalS, e1]
      go_simp
    obtain _ | i := i
    · obtain rfl := Option.some.inj hi'
      have e1 : st 6 = .int .i64 k := (hF 6 (by decide)).trans s6
      exact opStep_value (v := st 6) (w' := wz) rfl ⟨fun h => hG (down 5 (by decide) h), e1, fun k _ _ _ h => h⟩
    obtain _ | i := i
    · obtain rfl := Option.some.inj hi'
      have e1 : st 7 = Value.pointer (some ⟨bs, 0, none⟩) := (hF 7 (by decide)).trans s7
      refine opStep_value (v := Value.pointer (some ⟨bs, 0, none⟩)) (w' := wz) ?_ ⟨fun h => hG (down 6 (by decide) h), rfl, fun k _ _ _ h => h⟩
      simp only [execOp, evalS, e1]
      go_simp
    obtain _ | i := i
    · obtain rfl := Option.some.inj hi'
      have e1 : st 155 = Value.pointer (some ⟨bs, 0, none⟩) := hA 6 (ha { on := 6, ground := .data } (by simp) rfl) h99
      have cz := keptCell (hG (at21 7 (fun h => u7 (u9 (u10 (u11 (u19 (u20 h)))))) hl)) cs
      refine opStep_value (v := .slice (some ⟨ob, oo, none⟩) nt tcap) (w' := wz) ?_ ⟨fun h => hG (down 7 (by decide) h), rfl, fun k _ _ _ h => h⟩
      simp only [execOp, evalS, e1]
      go_simp
    obtain _ | i := i
    · obtain rfl := Option.some.inj hi'
      have e1 : st 12 = .int .i64 (m : Int) := (hF 12 (by decide)).trans s12
      exact opStep_value (v := st 12) (w' := wz) rfl ⟨fun h => hG (down 8 (by decide) h), e1, fun k _ _ _ h => h⟩
    obtain _ | i := i
    · obtain rfl := Option.some.inj hi'
      have e1 : st 156 = .slice (some ⟨ob, oo, none⟩) nt tcap := hA 7 (ha { on := 7, ground := .data } (by simp) rfl) h99
      have e2 : st 157 = .int .i64 (m : Int) := hA 8 (ha { on := 8, ground := .data } (by simp) rfl) h99
      refine opStep_value (v := Value.pointer (some ⟨ob, oo + m * 2, none⟩)) (w' := wz) ?_ ⟨fun h => hG (down 9 (by decide) h), rfl, fun k _ _ _ h => h⟩
      simp only [execOp, evalS, e1, e2]
      go_simp
    obtain _ | i := i
    · obtain rfl := Option.some.inj hi'
      have e1 : st 158 = Value.pointer (some ⟨ob, oo + m * 2, none⟩) := hA 9 (ha { on := 9, ground := .data } (by simp) rfl) h99
      refine opStep_value (v := Value.pointer (some ⟨ob, oo + m * 2, none⟩)) (w' := wz) ?_ ⟨fun h => hG (down 10 (by decide) h), rfl, fun k _ _ _ h => h⟩
      simp only [execOp, evalS, e1]
      go_simp
    obtain _ | i := i
    · obtain rfl := Option.some.inj hi'
      have e1 : st 159 = Value.pointer (some ⟨ob, oo + m * 2, none⟩) := hA 10 (ha { on := 10, ground := .data } (by simp) rfl) h99
      have cz := keptCell (hG (at21 11 (fun h => u11 (u19 (u20 h))) hl)) co
      refine opStep_value (v := .string ownN) (w' := wz) ?_ ⟨fun h => hG (down 11 (by decide) h), rfl, fun k _ _ _ h => h⟩
      simp only [execOp, evalS, e1]
      go_simp
    obtain _ | i := i
    · obtain rfl := Option.some.inj hi'
      have e1 : st 11 = .slice (some ⟨tg, to5, none⟩) nt k3 := (hF 11 (by decide)).trans s11
      exact opStep_value (v := st 11) (w' := wz) rfl ⟨fun h => hG (down 12 (by decide) h), e1, fun k _ _ _ h => h⟩
    obtain _ | i := i
    · obtain rfl := Option.some.inj hi'
      have e1 : st 12 = .int .i64 (m : Int) := (hF 12 (by decide)).trans s12
      exact opStep_value (v := st 12) (w' := wz) rfl ⟨fun h => hG (down 13 (by decide) h), e1, fun k _ _ _ h => h⟩
    obtain _ | i := i
    · obtain rfl := Option.some.inj hi'
      have e1 : st 161 = .slice (some ⟨tg, to5, none⟩) nt k3 := hA 12 (ha { on := 12, ground := .data } (by simp) rfl) h99
      have e2 : st 162 = .int .i64 (m : Int) := hA 13 (ha { on := 13, ground := .data } (by simp) rfl) h99
      refine opStep_value (v := Value.pointer (some ⟨tg, to5 + m, none⟩)) (w' := wz) ?_ ⟨fun h => hG (down 14 (by decide) h), rfl, fun k _ _ _ h => h⟩
      simp only [execOp, evalS, e1, e2]
      go_simp
    obtain _ | i := i
    · obtain rfl := Option.some.inj hi'
      have e1 : st 163 = Value.pointer (some ⟨tg, to5 + m, none⟩) := hA 14 (ha { on := 14, ground := .data } (by simp) rfl) h99
      have cz := keptCell (hG (at21 15 (fun h => u15 (u17 (u18 (u19 (u20 h))))) hl)) ct
      refine opStep_value (v := .slice (some ⟨nb, no, none⟩) nf tc) (w' := wz) ?_ ⟨fun h => hG (down 15 (by decide) h), rfl, fun k _ _ _ h => h⟩
      simp only [execOp, evalS, e1]
      go_simp
    obtain _ | i := i
    · obtain rfl := Option.some.inj hi'
      have e1 : st 16 = .int .i64 (q : Int) := (hF 16 (by decide)).trans s16
      exact opStep_value (v := st 16) (w' := wz) rfl ⟨fun h => hG (down 16 (by decide) h), e1, fun k _ _ _ h => h⟩
    obtain _ | i := i
    · obtain rfl := Option.some.inj hi'
      have e1 : st 164 = .slice (some ⟨nb, no, none⟩) nf tc := hA 15 (ha { on := 15, ground := .data } (by simp) rfl) h99
      have e2 : st 165 = .int .i64 (q : Int) := hA 16 (ha { on := 16, ground := .data } (by simp) rfl) h99
      refine opStep_value (v := Value.pointer (some ⟨nb, no + q, none⟩)) (w' := wz) ?_ ⟨fun h => hG (down 17 (by decide) h), rfl, fun k _ _ _ h => h⟩
      simp only [execOp, evalS, e1, e2]
      go_simp
    obtain _ | i := i
    · obtain rfl := Option.some.inj hi'
      have e1 : st 166 = Value.pointer (some ⟨nb, no + q, none⟩) := hA 17 (ha { on := 17, ground := .data } (by simp) rfl) h99
      have cz := keptCell (hG (at21 18 (fun h => u18 (u19 (u20 h))) hl)) cq
      refine opStep_value (v := .string oq) (w' := wz) ?_ ⟨fun h => hG (down 18 (by decide) h), rfl, fun k _ _ _ h => h⟩
      simp only [execOp, evalS, e1]
      go_simp
    obtain _ | i := i
    · obtain rfl := Option.some.inj hi'
      have e1 : st 154 = .int .i64 k := hA 5 (ha { on := 5, ground := .data } (by simp) rfl) h99
      have e2 : st 160 = .string ownN := hA 11 (ha { on := 11, ground := .data } (by simp) rfl) h99
      have e3 : st 167 = .string oq := hA 18 (ha { on := 18, ground := .data } (by simp) rfl) h99
      refine opStep_value (v := .agg #[.int .i64 k, .string ownN, .string oq]) (w' := wz) ?_ ⟨fun h => hG (down 19 (by decide) h), rfl, fun k _ _ _ h => h⟩
      simp only [execOp, List.map_toArray, List.map_cons, List.map_nil, evalS, e1, e2, e3]
      go_simp
    obtain _ | i := i
    · obtain rfl := Option.some.inj hi'
      have e1 : st 168 = .agg #[.int .i64 k, .string ownN, .string oq] := hA 19 (ha { on := 19, ground := .data } (by simp) rfl) h99
      have h21 := at21 20 u20 hl
      have hB := hG h21
      have hb := below1 wz (Obj.cells #[.int .i64 k, .string ownN, .string oq] 92)
      refine opStep_value (v := .slice (some ⟨wz.heap.size, 0, none⟩) 1 1) (w' := wz.alloc (.cells #[.int .i64 k, .string ownN, .string oq] 92)) ?_ ⟨fun _ => hB.trans (hb.mono hB.size), ⟨wz.heap.size, rfl, heap_alloc_new _ _⟩, fun k hk hLk _ h => oA_pure hk (fun e => by subst e; rw [h21] at hLk; cases hLk) (fun e => by subst e; rw [u21 hLk] at h21; cases h21) h⟩
      simp only [execOp, List.map_toArray, List.map_cons, List.map_nil, evalS, e1]
      go_simp
    obtain _ | i := i
    · obtain rfl := Option.some.inj hi'
      have hl21 : L 21 = false := hl
      have hB := hG hl21
      have e1 : st 153 = .slice b2 n d2 := hA 4 (ha { on := 4, ground := .data } (by simp) rfl) h99
      obtain ⟨b, e2, hbo⟩ : ∃ b, st 169 = .slice (some ⟨b, 0, none⟩) 1 1 ∧ wz.heap[b]? = some (.cells #[.int .i64 k, .string ownN, .string oq] 92 (0, 0)) := hA 20 (ha { on := 20, ground := .data } (by simp) rfl) hl21
      refine opStep_append2 (.tmp 153) (.tmp 169) 97 rfl 0 92 iO _ 3 40 Tryz.underlying97 oi oz0 oz1 oz2 rfl (by decide) (.slice b2 n d2) n _ e1 (hR.kept hB) (some ⟨b, 0, none⟩) 1 1 [.int .i64 k, .string ownN, .string oq] e2 rfl (blk_news hbo) (fun h => by cases h) (by intro u hu; simp at hu; rcases hu with rfl | rfl | rfl <;> rfl) (by unfold maxLen; omega) (by omega) (Nat.zero_le _) ?_
      intro v' w' hown hgr hvb
      refine ⟨fun h => (by unfold also at h; simp at h), ⟨wz, hB, hown, hgr, hvb⟩, fun k hk hLk hlv h => oA_pure (fun e => ?_) hk (fun e => by subst e; rw [u21 hLk] at hl21; cases hl21) h⟩
      subst e
      exact absurd hlv (by unfold live also con26; simp)
    obtain _ | i := i
    · obtain rfl := Option.some.inj hi'
      have e1 : st 149 = Value.pointer (some ⟨gj, tt * 4, none⟩) := hA 0 (ha { on := 0, ground := .data } (by simp) rfl) h99
      refine opStep_value (v := Value.pointer (some ⟨gj, tt * 4, none⟩)) (w' := wz) ?_ ⟨fun h => hG (down 22 (by decide) h), rfl, fun k _ _ _ h => h⟩
      simp only [execOp, evalS, e1]
      go_simp
    obtain _ | i := i
    · obtain rfl := Option.some.inj hi'
      have e1 : st 171 = Value.pointer (some ⟨gj, tt * 4, none⟩) := hA 22 (ha { on := 22, ground := .data } (by simp) rfl) h99
      refine opStep_value (v := Value.pointer (some ⟨gj, tt * 4 + 2, none⟩)) (w' := wz) ?_ ⟨fun h => hG (down 23 (by decide) h), rfl, fun k _ _ _ h => h⟩
      simp only [execOp, evalS, e1]
      go_simp
    obtain _ | i := i
    · obtain rfl := Option.some.inj hi'
      have h21 : L 21 = true := ha { on := 21, ground := .data } (by simp) rfl
      have e1 : st 172 = Value.pointer (some ⟨gj, tt * 4 + 2, none⟩) := hA 23 (ha { on := 23, ground := .data } (by simp) rfl) h99
      have hr : R26 w5 n ((List.range (n * 3)).map f) [.int .i64 k, .string ownN, .string oq] (.slice b2 n d2) (st 170) wz := hA 21 h21 hl
      obtain ⟨⟨u, hu⟩, hfz⟩ := hst _ _ hr
      obtain ⟨va, vc, e2⟩ : ∃ va vc, st 170 = .slice va (n + 1) vc := let ⟨_, _, h, _⟩ := hr; owns_slice h
      refine opStep_skip (w' := wz.setCell ⟨gj, tt * 4 + 2, none⟩ (st 170)) ?_ ⟨fun h => (by unfold also at h; rw [h21] at h; simp at h), ⟨wz, st 170, hr, rfl⟩, fun k hk hLk hlv h => oA_pure (fun e => ?_) (fun e => ?_) hk h⟩
      · rw [e2]
        simp only [execOp, evalS, e1, e2]
        go_simp
      · subst e
        exact absurd hlv (by unfold live also con26; rw [show (if (20 : Nat) = 20 then 21 else if (20 : Nat) = 21 then 24 else 99) = 21 from rfl, h21]; simp)
      · subst e
        exact absurd hlv (by unfold live also con26; simp)
    · exfalso
      have hlen : i + 25 < 25 := (List.getElem?_eq_some_iff.1 hi').1
      omega
  · intro L st wz hG hL hall hA
    have h99 : L 99 = false := by
      cases h : L 99 with
      | false => rfl
      | true => exact absurd (hL 99 h) (by decide)
    obtain ⟨w', v', hr, e⟩ : ∃ w' v', R26 w5 n ((List.range (n * 3)).map f) [.int .i64 k, .string ownN, .string oq] (.slice b2 n d2) v' w' ∧ wz = w'.setCell ⟨gj, tt * 4 + 2, none⟩ v' := hA 24 (hall 24 (by decide)) h99
    rw [e]
    exact hQ st w' v' hr
end Go.Proofs.YtjjggefmmeminabGreat

/-
  'return nil, api.Fault{..}' in stitchref1.All, out of three loops: the statement by itself.
-/
namespace Go.Proofs.YtjjggefmmeminabGreat
open Go.RowKit Go.Sort Go.PlainAid

set_option maxRecDepth 100000 in
set_option maxHeartbeats 2000000 in
theorem all_err (rb : Nat) (k : Int) (U : World) (x0 : U.cell? ⟨rb, 0, none⟩ = some (.int .i64 0)) (x1 : U.cell? ⟨rb, 1, none⟩ = some (.int .i64 0)) (z0 : U.frozen? ⟨rb, 0, none⟩ = false) (z1 : U.frozen? ⟨rb, 1, none⟩ = false)
    (v0 v1 v2 v4 v5 v7 v8 v9 v10 v11 v12 v13 v14 v15 v16 v17 v18 v19 v20 v21 v22 v23 v24 v25 v26 v27 v28 v29 v30 v31 v32 v33 v34 v35 v36 v37 v38 v39 v40 v41 v42 v43 v44 v45 v46 v47 v48 v49 v50 v51 v52 v53 v54 v55 v56 v57 v58 v59 v60 v61 v62 v63 v64 v65 v66 v67 v68 v69 v70 v71 v72 v73 v74 v75 v76 v77 v78 v79 v80 v81 v82 v83 v84 v85 v86 v87 v88 v89 v90 v91 v92 v93 v94 v95 v96 v97 v98 v99 v100 v101 v102 v103 v104 v105 v106 v107 v108 v109 v110 v111 v112 v113 v114 v115 v116 v117 v118 v119 v120 v121 v122 v123 v124 v125 v126 v127 v128 v129 v130 v131 v132 v133 v135 v136 v137 v138 v139 v140 v141 v142 v143 v144 v145 v146 v147 v148 v149 v150 v151 v152 v153 v154 v155 v156 v157 v158 v159 v160 v161 v162 v163 v164 v165 v166 v167 v168 v169 v170 v171 v172 v173 v174 v175 v176 v177 : Value) :
    Code.wp Tryz.prog (Code.cond (Operand.tmp 134) ((Code.region 24 #[{ dst := some 135, op := Op.move (Operand.tmp 6), type := 3, pos := "ref.go:310", after := #[{ on := 2, ground := Ground.gcOnly Departure.lateStores }], guard := none }, { dst := some 136, op := Op.build 39 #[(0, Operand.const (Value.int IntKind.i64 6)), (1, Operand.tmp 135)], type := 39, pos := "ref.go:310", after := #[{ on := 0, ground := Ground.data }, { on := 2, ground := Ground.gcOnly Departure.lateStores }], guard := none }, { dst := some 2, op := Op.assign (Operand.const (Value.slice none 0 0)), type := 37, pos := "ref.go:310", after := #[{ on := 0, ground := Ground.textOnly Departure.lateStores }, { on := 1, ground := Ground.textOnly Departure.lateStores }], guard := none }, { dst := none, op := Op.store 39 (Operand.tmp 3) (Operand.tmp 136), type := 0, pos := "ref.go:310", after := #[{ on := 1, ground := Ground.data }, { on := 2, ground := Ground.chain }, { on := 0, ground := Ground.phase }, { on := 1, ground := Ground.phase }, { on := 2, ground := Ground.phase }], guard := none }] false).seq Code.ret) Code.skip) (fun e a' w' => e = Exit.ret ∧ a'.defers = [] ∧ a'.tmps.getD 2 undef = .slice none 0 0 ∧ a'.tmps.getD 3 undef = .pointer (some ⟨rb, 0, none⟩) ∧ w' = (U.setCell ⟨rb, 0, none⟩ (.int .i64 6)).setCell ⟨rb, 1, none⟩ (.int .i64 k)) ⟨#[v0, v1, v2, .pointer (some ⟨rb, 0, none⟩), v4, v5, .int .i64 k, v7, v8, v9, v10, v11, v12, v13, v14, v15, v16, v17, v18, v19, v20, v21, v22, v23, v24, v25, v26, v27, v28, v29, v30, v31, v32, v33, v34, v35, v36, v37, v38, v39, v40, v41, v42, v43, v44, v45, v46, v47, v48, v49, v50, v51, v52, v53, v54, v55, v56, v57, v58, v59, v60, v61, v62, v63, v64, v65, v66, v67, v68, v69, v70, v71, v72, v73, v74, v75, v76, v77, v78, v79, v80, v81, v82, v83, v84, v85, v86, v87, v88, v89, v90, v91, v92, v93, v94, v95, v96, v97, v98, v99, v100, v101, v102, v103, v104, v105, v106, v107, v108, v109, v110, v111, v112, v113, v114, v115, v116, v117, v118, v119, v120, v121, v122, v123, v124, v125, v126, v127, v128, v129, v130, v131, v132, v133, .bool true, v135, v136, v137, v138, v139, v140, v141, v142, v143, v144, v145, v146, v147, v148, v149, v150, v151, v152, v153, v154, v155, v156, v157, v158, v159, v160, v161, v162, v163, v164, v165, v166, v167, v168, v169, v170, v171, v172, v173, v174, v175, v176, v177], []⟩ U := by
  go_wp2_with fail
end Go.Proofs.YtjjggefmmeminabGreat

/-
  Pieces of stitchref1.All's code.
-/
namespace Go.Proofs.YtjjggefmmeminabGreat

noncomputable def allBlock (n : Nat) : Code := (Tryz.f17.body.bind (blockOf n)).getD .skip
noncomputable def allSeq (n : Nat) : Code := (Tryz.f17.body.bind (seqOf n)).getD .skip
end Go.Proofs.YtjjggefmmeminabGreat
