import Derived.Test.YtbnjflajhlnifaaRfTypes
import Derived.Test.YtbnjflajhlnifaaRmIns
/-
  A type that stitchref1 sees, as it lies in memory when all services' schemas are put together.
-/
namespace Go.Proofs.Ytbnjflajhlnifaa
open Go.RowKit Go.Sort

structure TyAt (w : World) (bs : Nat) (s : LServ) (a2 a3 : Option Addr) (j : Nat) (A : Option Addr) (Cp : Nat) (S : PSeen) : Prop where
  box : w.heap[bs]? = some (.cells #[.slice s.ta s.nt s.tcap, .slice s.ca s.nc s.ccap, .slice s.xa s.nx s.xcap] 83 (0, 0))
  own : ∃ b o, s.ta = some ⟨b, o, none⟩ ∧ w.cell? ⟨b, o + j * 2, none⟩ = some (.string S.own)
  typ : ∃ g, a2 = some ⟨g, 0, none⟩ ∧ w.cell? ⟨g, j * 2, none⟩ = some (.string S.name) ∧ w.cell? ⟨g, j * 2 + 1, none⟩ = some (.slice A S.nf Cp)
  fld : FieldsAt w A S.nf S.F
  txt : ∃ g o c, a3 = some ⟨g, 0, none⟩ ∧ w.cell? ⟨g, j, none⟩ = some (.slice o S.nf c) ∧ KeysAt w o S.nf S.O
theorem TyAt.kept {w w' : World} {bs : Nat} {s : LServ} {a2 a3 : Option Addr} {j : Nat} {A : Option Addr} {Cp : Nat} {S : PSeen} (h : TyAt w bs s a2 a3 j A Cp S) (hb : Below w.heap.size w w') : TyAt w' bs s a2 a3 j A Cp S := by
  obtain ⟨b, o, e, c⟩ := h.own
  obtain ⟨g, e2, c2, c3⟩ := h.typ
  obtain ⟨g3, o3, d3, e3, c4, hk⟩ := h.txt
  exact ⟨(hb.block _ (lt_of_block h.box)).trans h.box, ⟨b, o, e, keptCell hb c⟩, ⟨g, e2, keptCell hb c2, keptCell hb c3⟩, h.fld.kept hb, ⟨g3, o3, d3, e3, keptCell hb c4, hk.kept hb⟩⟩

theorem ty_at {B w' : World} {b0 bs : Nat} {s : LServ} {a2 a3 : Option Addr} {c2 c3 : Nat} {A : Nat → Option Addr} {Cp : Nat → Nat} {NV : Nat → Value} {txt : Nat → Nat → ByteArray}
    (hb0 : bs ≤ b0) (hbox : B.heap[bs]? = some (.cells #[.slice s.ta s.nt s.tcap, .slice s.ca s.nc s.ccap, .slice s.xa s.nx s.xcap] 83 (0, 0)))
    (hT : TypesAt w' s.ta s.nt s.T) (hRel : Rel s.nt s.T (seenS s) txt) (hgood : ∀ i, i < s.nt → GoodS (seenS s i))
    (rT : Row B b0 34 2 (.slice a2 s.nt c2) s.nt (typeCell (typR s.nt s.T txt A Cp))) (rF : ∀ i, i < s.nt → Row B b0 79 3 (.slice (A i) (visL s.T txt i).length (Cp i)) (visL s.T txt i).length (fieldCell (fun q => mkF s.nt s.T txt i ((visL s.T txt i).getD q 0))))
    (rN : Row B b0 44 1 (.slice a3 s.nt c3) s.nt NV) (rO : ∀ i, i < s.nt → Row B b0 9 1 (NV i) (visL s.T txt i).length (textCell (fun q => ((s.T i).F ((visL s.T txt i).getD q 0)).name)))
    (hk : ∀ b, bs ≤ b → b < B.heap.size → w'.heap[b]? = B.heap[b]?) : ∀ j, j < s.nt → TyAt w' bs s a2 a3 j (A j) (Cp j) (seenS s j) := fun j hj => by
  have at' : ∀ {e size m : Nat} {u : Value} {f : Nat → Value}, Row B b0 e size u m f → Row w' b0 e size u m f := fun hr => hr.at fun k hk' => hk k (Nat.le_trans hb0 (hr.lt hk').1) (hr.lt hk').2
  have hnf := hRel.nf j hj
  have hgd := hgood j hj
  refine ⟨(hk bs (Nat.le_refl _) (lt_of_block hbox)).trans hbox, ?_, ?_, ?_, ?_⟩
  · obtain ⟨b, o, e, c, -⟩ := hT.2 j hj
    exact ⟨b, o, e, by rw [hRel.own j hj]; exact c⟩
  · have r := at' rT
    rcases r.shape with ⟨-, h0⟩ | ⟨g, cap, hv, -, -, -⟩
    · omega
    cases hv
    refine ⟨g, rfl, ?_, ?_⟩
    · rw [r.cell (j := j * 2) (by omega)]
      unfold typeCell
      rw [if_pos (by omega), show j * 2 / 2 = j by omega, hRel.name j hj]; rfl
    · rw [r.cell (j := j * 2 + 1) (by omega)]
      unfold typeCell
      rw [if_neg (by omega), show (j * 2 + 1) / 2 = j by omega, hnf]; rfl
  · have r := at' (rF j hj)
    rw [← hnf] at r
    have r' : Row w' b0 79 3 (.slice (A j) (seenS s j).nf (Cp j)) (seenS s j).nf (fieldCell (seenS s j).F) := r.congr fun q hq => by
      have e := hRel.F j hj (q / 3) (by omega)
      unfold fieldCell
      rw [e]
    obtain ⟨a9, c9, e9, -, hF⟩ := r'.fieldsAt hgd.2.2.1 hgd.2.2.2.1
    cases e9
    exact hF
  · have r := at' rN
    rcases r.shape with ⟨-, h0⟩ | ⟨g, cap, hv, -, -, -⟩
    · omega
    cases hv
    have r2 := at' (rO j hj)
    rw [← hnf] at r2
    have r3 : Row w' b0 9 1 (NV j) (seenS s j).nf (textCell (seenS s j).O) := r2.congr fun q hq => by
      have e := hRel.O j hj q (by omega)
      unfold textCell
      rw [e]
    obtain ⟨a9, c9, e9, -, hK⟩ := r3.keysAt hgd.2.2.1 hgd.2.2.2.2
    exact ⟨g, a9, c9, rfl, by rw [r.cell (j := j) (by omega), e9], hK⟩

theorem named_small {s : ByteArray} (h : named s = true) : Small s := by
  by_cases h12 : 12 < s.size
  · unfold named at h; simp [h12] at h
  · unfold Small maxLen; omega
/-- What is seen of a service that is right is good. -/
theorem seen_good {w : World} {s : LServ} (hs : ServOk w s) (hok : (seeE s).1 = 0) : ∀ i, i < s.nt → GoodS (seenS s i) := fun i hi => by
  have hR0 := seeF_right hok
  have hRS : RightS s.nt (seenS s) := right_run hR0 s.nc
  have hRel : Rel s.nt s.T (seenS s) (runR s.nt (initLen s.nt s.T) (initTxt s.T) s.C s.nc) := rel_run (C := s.C) hR0 s.nc
  have hf := hRS.fld i hi
  obtain ⟨_, _, _, _, _, _, hsn, hF⟩ := hs.types.2 i hi
  have hnf : (seenS s i).nf ≤ 10 := hf.few
  refine ⟨named_small (hRS.nam i hi), by rw [hRel.own i hi]; exact hsn, by unfold maxLen; omega, fun j hj => ?_, fun j hj => ?_⟩
  · refine ⟨named_small (hf.nam j hj), ?_, ?_⟩
    · rcases hf.fit j hj with ⟨-, h2⟩ | ⟨-, k, hk, e⟩
      · have h3 : ((seenS s i).F j).type.size = 0 := h2
        unfold Small; rw [h3]; exact Nat.zero_le _
      · have h3 := named_small (hRS.nam k hk)
        have e' : (seenS s k).name = ((seenS s i).F j).type := e
        rw [← e']; exact h3
    · rcases hf.fit j hj with ⟨h1, -⟩ | ⟨h1, -⟩
      · have h2 : ((seenS s i).F j).kind = 1 := h1
        rw [h2]; rfl
      · have h2 : ((seenS s i).F j).kind = 2 ∨ ((seenS s i).F j).kind = 3 := h1
        rcases h2 with h2 | h2 <;> rw [h2] <;> rfl
  · have hO := hRel.O i hi j hj
    have hO' : (seenS s i).O j = ((s.T i).F ((visL s.T (runR s.nt (initLen s.nt s.T) (initTxt s.T) s.C s.nc) i).getD j 0)).name := hO
    rw [hO']
    have hnf' := hRel.nf i hi
    have hlt : j < (visL s.T (runR s.nt (initLen s.nt s.T) (initTxt s.T) s.C s.nc) i).length := by rw [← hnf']; exact hj
    obtain ⟨_, _, _, _, _, _, hsm, _⟩ := hF.2 _ (vis_at hlt).1
    exact hsm
end Go.Proofs.Ytbnjflajhlnifaa
