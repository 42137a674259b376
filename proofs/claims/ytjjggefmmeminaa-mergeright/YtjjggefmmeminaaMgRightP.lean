/-
  Plain: the whole is a schema: what MergeRight asks of each part.
-/
import Derived.Test.YtjjggefmmeminaaMgDefs
import Derived.Test.YtjjggefmmeminaaChAid
import Derived.Test.YtjjggefmmeminaaMgChar
namespace Go.Proofs.Ytjjggefmmeminaa
open Go.RowKit Go.Sort

theorem fidx_self {l : List LField} (h : (l.map (·.name)).Nodup) {k : Nat} (hk : k < l.length) : fieldIdx l.length (fun j => l.getD j dF) (l.getD k dF).name = (k : Int) := by
  refine idx_hit hk (eqs_iff.2 rfl) fun j hj => eqs_false.2 fun e => ?_
  have hp := List.pairwise_iff_getElem.1 h j k (by simpa using by omega) (by simpa using hk) hj
  simp only [List.getElem_map] at hp
  apply hp
  simpa [List.getD, hk, show j < l.length by omega] using e

/-- What is right with a part. -/
structure PartRight (n : Nat) (V : Nat → LServ) (L : List PPart) (p : PPart) : Prop where
  olen : p.os.length = p.fs.length
  hlen : p.hs.length ≠ 0
  self : ∀ k, k < p.fs.length → fieldIdx p.fs.length (fsN p) (fsN p k).name = (k : Int)
  find : ∀ k, k < p.fs.length → (fsN p k).kind ≠ 1 → ¬ mfind L (fsN p k).type < 0
  own : ∀ k, k < p.fs.length → ∃ s j q : Nat, s < n ∧ (osN p k).svc = (s : Int) ∧ j < (V s).nt ∧ (seenS (V s) j).own = (osN p k).type ∧ (seenS (V s) j).name = p.name ∧ (∀ j', j' < (V s).nt → (seenS (V s) j').name = p.name → j' = j) ∧ fieldIdx (seenS (V s) j).nf (seenS (V s) j).F (fsN p k).name = (q : Int) ∧ q < (seenS (V s) j).nf ∧ (seenS (V s) j).O q = (osN p k).field

theorem mk_fs (nm : ByteArray) (E : List (Int × PSeen)) (k : Nat) (hk : k < (PL nm E).length) : fsN (mkP nm E) k = ((PL nm E)[k]).1 ∧ osN (mkP nm E) k = ((PL nm E)[k]).2 := by
  unfold fsN osN mkP; simp [List.getD, hk]
theorem mk_len (nm : ByteArray) (E : List (Int × PSeen)) : (mkP nm E).fs.length = (PL nm E).length ∧ (mkP nm E).os.length = (PL nm E).length := by unfold mkP; simp

theorem part_right {n : Nat} {V : Nat → LServ} (h0 : (allF n V).1 = 0) : n ≤ 5 ∧ (∀ j, j < n → (seeE (V j)).1 = 0) ∧ Nod (ents (ntS V) (seenA V) n) ∧ ∀ i, i < (allP (ntS V) (seenA V) n).length → PartRight n V (allP (ntS V) (seenA V) n) (nth (allP (ntS V) (seenA V) n) i) := by
  have hw : (wrongF n V).1 = 0 := by
    unfold allF at h0
    by_cases h : (wrongF n V).1 ≠ 0
    · rw [if_pos h] at h0; exact h0
    · exact Decidable.not_not.1 h
  obtain ⟨hn, hokA⟩ := wrongF_ok hw
  have hok : ∀ j, j < n → (seeE (V j)).1 = 0 := fun j hj => (hokA j hj).1
  have hf : (fault n (errA (ntS V) (seenA V))).1 = 0 := by
    unfold allF at h0
    rw [if_neg (fun h => h hw)] at h0; exact h0
  have hN : Nod (ents (ntS V) (seenA V) n) := (all_zero n).1 (fault_zero.1 hf)
  have hC : Char (allP (ntS V) (seenA V) n) (ents (ntS V) (seenA V) n) := char_all n
  have hRS : ∀ j, j < n → RightS (V j).nt (seenS (V j)) := fun j hj => right_run (seeF_right (hok j hj)) (V j).nc
  refine ⟨hn, hok, hN, fun i hi => ?_⟩
  have hp := hC.part i hi
  have hs := hC.some i hi
  generalize (nth (allP (ntS V) (seenA V) n) i).name = nm at hp hs
  rw [hp]
  obtain ⟨l1, l2⟩ := mk_len nm (ents (ntS V) (seenA V) n)
  have hnod : ((mkP nm (ents (ntS V) (seenA V) n)).fs.map (·.name)).Nodup := by
    have := hN nm
    unfold mkP; simpa [Function.comp_def] using this
  have hmem : ∀ k, k < (mkP nm (ents (ntS V) (seenA V) n)).fs.length → ∃ s j q : Nat, s < n ∧ j < (V s).nt ∧ (seenS (V s) j).name = nm ∧ q < (seenS (V s) j).nf ∧ fsN (mkP nm (ents (ntS V) (seenA V) n)) k = (seenS (V s) j).F q ∧ osN (mkP nm (ents (ntS V) (seenA V) n)) k = ⟨(s : Int), (seenS (V s) j).own, (seenS (V s) j).O q⟩ := fun k hk => by
    rw [l1] at hk
    obtain ⟨e1, e2⟩ := mk_fs nm _ k hk
    obtain ⟨e, he, hen, q, hq, hx⟩ := mem_PL.1 (List.getElem_mem hk)
    obtain ⟨s, j, hs, hj, rfl⟩ := mem_ents.1 he
    exact ⟨s, j, q, hs, hj, hen, hq, by rw [e1, hx]; rfl, by rw [e2, hx]; rfl⟩
  refine ⟨by rw [l1, l2], fun h => hs (by simpa [mkP] using h), fun k hk => fidx_self hnod hk, fun k hk hkind => ?_, fun k hk => ?_⟩
  · obtain ⟨s, j, q, h1, h2, h3, h4, e1, -⟩ := hmem k hk
    rw [e1] at hkind ⊢
    have hfit := ((hRS s h1).fld j h2).fit q h4
    rcases hfit with ⟨h5, -⟩ | ⟨-, k', hk', e⟩
    · exact absurd h5 hkind
    · obtain ⟨i', hi', e'⟩ := hC.has ((s : Int), seenS (V s) k') (mem_ents.2 ⟨s, k', h1, hk', rfl⟩)
      intro hneg
      have := idx_neg.1 hneg i' hi'
      exact eqs_false.1 this (e'.trans e)
  · obtain ⟨s, j, q, h1, h2, h3, h4, e1, e2⟩ := hmem k hk
    have hr := hRS s h1
    have hfi : fieldIdx (seenS (V s) j).nf (seenS (V s) j).F ((seenS (V s) j).F q).name = (q : Int) := idx_hit h4 (eqs_iff.2 rfl) fun m hm => eqs_false.2 fun e => (hr.fld j h2).one m q hm h4 e
    refine ⟨s, j, q, h1, by rw [e2], h2, by rw [e2], h3, fun j' hj' e' => ?_, by rw [e1]; exact hfi, h4, by rw [e2]⟩
    rcases Nat.lt_trichotomy j' j with h | h | h
    · exact absurd (e'.trans h3.symm) (hr.one j' j h h2)
    · exact h
    · exact absurd (h3.trans e'.symm) (hr.one j j' h hj')
end Go.Proofs.Ytjjggefmmeminaa
