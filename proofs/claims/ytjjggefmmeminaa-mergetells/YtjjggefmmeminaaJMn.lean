/- Joined: MgDefs, MgChar, MgRightP. -/
import Derived.Test.YtjjggefmmeminaaJPl
import Derived.Test.YtjjggefmmeminaaJMt
/-
  What all services' schemas, put together, are: what is wrong, and at which service.
-/
namespace Go.Proofs.Ytjjggefmmeminaa
open Go.RowKit Go.Sort Go.PlainAid

def ntS (V : Nat → LServ) (j : Nat) : Nat := (V j).nt
def seenA (V : Nat → LServ) (j : Nat) : Nat → PSeen := seenS (V j)
def allF (n : Nat) (V : Nat → LServ) : Int × Int := if (wrongF n V).1 ≠ 0 then wrongF n V else fault n (errA (ntS V) (seenA V))
theorem wrongF_ok {n : Nat} {V : Nat → LServ} (h : (wrongF n V).1 = 0) : n ≤ 5 ∧ ∀ j, j < n → (seeE (V j)).1 = 0 ∧ (wrongThings (V j).nt (V j).T (V j).nx (V j).X).1 = 0 := by
  unfold wrongF at h
  by_cases h5 : 5 < n
  · rw [if_pos h5] at h; exact absurd h (by decide)
  · rw [if_neg h5] at h
    refine ⟨by omega, ?_⟩
    rcases fault_cases n (fun i => wrongServ (V i)) with ⟨-, hall⟩ | ⟨k, hk, e, hne, -⟩
    · intro j hj
      have h1 := hall j hj
      unfold wrongServ at h1
      by_cases h2 : (seeE (V j)).1 ≠ 0
      · rw [if_pos h2] at h1; exact absurd h1 h2
      · rw [if_neg h2] at h1; exact ⟨Decidable.not_not.1 h2, h1⟩
    · rw [e] at h; exact absurd h hne
end Go.Proofs.Ytjjggefmmeminaa

/-
  Plain: what the parts are: of each name that a seen type has, all such types' fields, in their order; there is no error just if no two fields of one name are called alike.
-/
namespace Go.Proofs.Ytjjggefmmeminaa
open Go.RowKit Go.Sort

def pairsOf (e : Int × PSeen) : List (LField × POwner) := (List.range e.2.nf).map (fun q => (e.2.F q, ⟨e.1, e.2.own, e.2.O q⟩))
def sel (nm : ByteArray) (E : List (Int × PSeen)) : List (Int × PSeen) := E.filter (fun e => eqs e.2.name nm)
def PL (nm : ByteArray) (E : List (Int × PSeen)) : List (LField × POwner) := (sel nm E).flatMap pairsOf
def homeOf (e : Int × PSeen) : POwner := ⟨e.1, e.2.own, ⟨#[]⟩⟩
def mkP (nm : ByteArray) (E : List (Int × PSeen)) : PPart := ⟨nm, (PL nm E).map (·.1), (PL nm E).map (·.2), (sel nm E).map homeOf⟩
structure Char (L : List PPart) (E : List (Int × PSeen)) : Prop where
  rise : Rise L
  part : ∀ i, i < L.length → nth L i = mkP (nth L i).name E
  some : ∀ i, i < L.length → sel (nth L i).name E ≠ []
  has : ∀ e ∈ E, ∃ i, i < L.length ∧ (nth L i).name = e.2.name

theorem hit_of {L : List PPart} (hR : Rise L) {i : Nat} (hi : i < L.length) : pos L (nth L i).name = i ∧ hit L (nth L i).name = true := by
  have h1 : pos L (nth L i).name = i := pos_is (Nat.le_of_lt hi) (fun t ht => hR t i ht hi) (fun _ => lt_irrefl _)
  refine ⟨h1, ?_⟩
  unfold hit
  rw [h1, decide_eq_true hi, eqs_iff.2 rfl]; rfl
theorem sel_snoc_yes {nm : ByteArray} {E : List (Int × PSeen)} {e : Int × PSeen} (h : e.2.name = nm) : sel nm (E ++ [e]) = sel nm E ++ [e] := by
  unfold sel; rw [List.filter_append]; simp [eqs_iff.2 h]
theorem sel_snoc_no {nm : ByteArray} {E : List (Int × PSeen)} {e : Int × PSeen} (h : e.2.name ≠ nm) : sel nm (E ++ [e]) = sel nm E := by
  unfold sel; rw [List.filter_append]; simp [eqs_false.2 h]
theorem mk_snoc_no {nm : ByteArray} {E : List (Int × PSeen)} {e : Int × PSeen} (h : e.2.name ≠ nm) : mkP nm (E ++ [e]) = mkP nm E := by
  unfold mkP PL; rw [sel_snoc_no h]
theorem mk_snoc_yes {E : List (Int × PSeen)} {svc : Int} {t : PSeen} : mkP t.name (E ++ [(svc, t)]) = partK (mkP t.name E) svc t t.nf := by
  unfold mkP PL partK
  rw [sel_snoc_yes (nm := t.name) (E := E) (e := (svc, t)) rfl]
  simp [pairsOf, homeOf, List.flatMap_append, Function.comp_def]
theorem mk_nil {nm : ByteArray} {E : List (Int × PSeen)} (h : sel nm E = []) : mkP nm E = newP nm := by
  unfold mkP PL newP; rw [h]; rfl

theorem Char.ins {L : List PPart} {E : List (Int × PSeen)} (h : Char L E) (s : ByteArray) : ∀ i, i < (ins L s).length → nth (Go.Proofs.Ytjjggefmmeminaa.ins L s) i = mkP (nth (Go.Proofs.Ytjjggefmmeminaa.ins L s) i).name E ∧ (i ≠ pos L s → sel (nth (Go.Proofs.Ytjjggefmmeminaa.ins L s) i).name E ≠ [] ∧ (nth (Go.Proofs.Ytjjggefmmeminaa.ins L s) i).name ≠ s) := fun i hi => by
  cases hh : hit L s with
  | true =>
    have hp := ins_pos (L := L) (s := s)
    rw [ins_hit hh] at hi hp ⊢
    refine ⟨h.part i hi, fun hne => ⟨h.some i hi, fun e => hne ?_⟩⟩
    rw [← e]; exact ((hit_of h.rise hi).1).symm
  | false =>
    have hno : ∀ j, j < L.length → (nth L j).name ≠ s := fun j hj e => by
      have := (hit_of h.rise hj).2
      rw [e, hh] at this; cases this
    have hsel : sel s E = [] := by
      unfold sel
      rw [List.filter_eq_nil_iff]
      intro e he he'
      obtain ⟨j, hj, e1⟩ := h.has e he
      exact hno j hj (e1.trans (eqs_iff.1 he'))
    rw [ins_len hh] at hi
    rw [ins_nth hh]
    by_cases c1 : i < pos L s
    · have := pos_le L s
      rw [if_pos c1]; exact ⟨h.part i (by omega), fun _ => ⟨h.some i (by omega), hno i (by omega)⟩⟩
    · rw [if_neg c1]
      by_cases c2 : i = pos L s
      · rw [if_pos c2]; exact ⟨(mk_nil hsel).symm, fun hne => absurd c2 hne⟩
      · rw [if_neg c2]; exact ⟨h.part (i - 1) (by omega), fun _ => ⟨h.some (i - 1) (by omega), hno (i - 1) (by omega)⟩⟩
theorem ins_has {L : List PPart} {s nm : ByteArray} (h : ∃ i, i < L.length ∧ (nth L i).name = nm) : ∃ i, i < (ins L s).length ∧ (nth (ins L s) i).name = nm := by
  obtain ⟨i, hi, e⟩ := h
  cases hh : hit L s with
  | true => rw [ins_hit hh]; exact ⟨i, hi, e⟩
  | false =>
    by_cases c : i < pos L s
    · exact ⟨i, by rw [ins_len hh]; omega, by rw [ins_nth hh, if_pos c]; exact e⟩
    · exact ⟨i + 1, by rw [ins_len hh]; omega, by rw [ins_nth hh, if_neg (by omega), if_neg (by omega)]; exact e⟩
theorem Char.step {L : List PPart} {E : List (Int × PSeen)} (h : Char L E) (svc : Int) (t : PSeen) : Char (stepT svc L t) (E ++ [(svc, t)]) := by
  obtain ⟨hp1, hp2⟩ := ins_pos (L := L) (s := t.name)
  have hl : (stepT svc L t).length = (Go.Proofs.Ytjjggefmmeminaa.ins L t.name).length := by unfold stepT; rw [List.length_set]
  have hn : ∀ i, i < (Go.Proofs.Ytjjggefmmeminaa.ins L t.name).length → nth (stepT svc L t) i = if i = pos L t.name then mkP t.name (E ++ [(svc, t)]) else nth (Go.Proofs.Ytjjggefmmeminaa.ins L t.name) i := fun i hi => by
    unfold stepT
    rw [nth_set hp1]
    by_cases e : i = pos L t.name
    · rw [if_pos e, if_pos e, mk_snoc_yes, (h.ins t.name _ hp1).1, hp2]
    · rw [if_neg e, if_neg e]
  refine ⟨step_rise h.rise, fun i hi => ?_, fun i hi => ?_, fun e he => ?_⟩
  · rw [hl] at hi
    rw [hn i hi]
    by_cases e : i = pos L t.name
    · rw [if_pos e]; rfl
    · rw [if_neg e]
      obtain ⟨q1, q2⟩ := h.ins t.name i hi
      rw [mk_snoc_no (q2 e).2.symm]; exact q1
  · rw [hl] at hi
    rw [hn i hi]
    by_cases e : i = pos L t.name
    · rw [if_pos e]
      show sel t.name (E ++ [(svc, t)]) ≠ []
      rw [sel_snoc_yes (nm := t.name) (E := E) (e := (svc, t)) rfl]; simp
    · rw [if_neg e]
      obtain ⟨-, q2⟩ := h.ins t.name i hi
      rw [sel_snoc_no (q2 e).2.symm]; exact (q2 e).1
  · have hk : ∀ i, i < (Go.Proofs.Ytjjggefmmeminaa.ins L t.name).length → (nth (stepT svc L t) i).name = (nth (Go.Proofs.Ytjjggefmmeminaa.ins L t.name) i).name := fun i hi => by
      rw [hn i hi]
      by_cases e : i = pos L t.name
      · rw [if_pos e, e, hp2]; rfl
      · rw [if_neg e]
    rcases List.mem_append.1 he with he | he
    · obtain ⟨i, hi, e1⟩ := ins_has (s := t.name) (h.has e he)
      exact ⟨i, by rw [hl]; exact hi, by rw [hk i hi]; exact e1⟩
    · have : e = (svc, t) := by simpa using he
      subst this
      exact ⟨_, by rw [hl]; exact hp1, by rw [hk _ hp1]; exact hp2⟩

/-! No two fields of one name are called alike -/
def Nod (E : List (Int × PSeen)) : Prop := ∀ nm, ((PL nm E).map (fun x => x.1.name)).Nodup
theorem errP_zero {p : PPart} {t : PSeen} (hp : (p.fs.map (·.name)).Nodup) : errP p t = 0 ↔ ((p.fs ++ (List.range t.nf).map t.F).map (·.name)).Nodup := by
  have key : ∀ k, (∀ j, j < k → clash p t j = false) ↔ ((p.fs ++ (List.range k).map t.F).map (·.name)).Nodup := fun k => by
    induction k with
    | zero => simpa using hp
    | succ k ih =>
      have e : p.fs ++ (List.range (k + 1)).map t.F = (p.fs ++ (List.range k).map t.F) ++ [t.F k] := by rw [List.range_succ, List.map_append, List.append_assoc]; rfl
      rw [e, List.map_append, List.nodup_append]
      clear e
      constructor
      · intro h
        refine ⟨ih.1 fun j hj => h j (by omega), by simp, fun a ha b hb => ?_⟩
        have hb' : b = (t.F k).name := by simpa using hb
        rw [hb']
        rintro rfl
        obtain ⟨f, hf, hfe⟩ := List.mem_map.1 ha
        have := h k (by omega)
        unfold clash at this
        rw [List.any_eq_false] at this
        exact this f hf (eqs_iff.2 hfe)
      · rintro ⟨h1, -, h3⟩ j hj
        by_cases e : j < k
        · exact ih.2 h1 j e
        · have : j = k := by omega
          subst this
          unfold clash
          rw [List.any_eq_false]
          intro f hf he
          exact h3 f.name (List.mem_map.2 ⟨f, hf, rfl⟩) (t.F j).name (by simp) (eqs_iff.1 he)
  rw [← key t.nf]
  unfold errP
  constructor
  · intro h j hj
    by_cases hc : (List.range t.nf).any (clash p t) = true
    · rw [if_pos hc] at h; exact absurd h (by decide)
    · cases hcl : clash p t j with
      | false => rfl
      | true => exact absurd (List.any_eq_true.2 ⟨j, by simpa using hj, hcl⟩) hc
  · intro h
    rw [if_neg]
    intro hc
    obtain ⟨k, hk, e⟩ := List.any_eq_true.1 hc
    rw [h k (by simpa using hk)] at e; cases e
theorem Char.err {L : List PPart} {E : List (Int × PSeen)} (h : Char L E) (hN : Nod E) (svc : Int) (t : PSeen) : errT L t = 0 ↔ Nod (E ++ [(svc, t)]) := by
  obtain ⟨hp1, hp2⟩ := ins_pos (L := L) (s := t.name)
  have hm : nth (Go.Proofs.Ytjjggefmmeminaa.ins L t.name) (pos L t.name) = mkP t.name E := by rw [(h.ins t.name _ hp1).1, hp2]
  have hfs : (mkP t.name E).fs.map (·.name) = (PL t.name E).map (fun x => x.1.name) := by unfold mkP; simp [Function.comp_def]
  have hsn : (PL t.name (E ++ [(svc, t)])).map (fun x => x.1.name) = ((mkP t.name E).fs ++ (List.range t.nf).map t.F).map (·.name) := by
    unfold PL
    rw [sel_snoc_yes (nm := t.name) (E := E) (e := (svc, t)) rfl, List.flatMap_append, List.map_append, List.map_append, hfs]
    unfold PL
    simp [pairsOf, Function.comp_def]
  unfold errT
  rw [hm, errP_zero (by rw [hfs]; exact hN _), ← hsn]
  constructor
  · intro h' nm
    by_cases e : t.name = nm
    · rw [← e]; exact h'
    · unfold PL; rw [sel_snoc_no e]; exact hN nm
  · intro h'; exact h' _
theorem nod_less {E : List (Int × PSeen)} {e : Int × PSeen} (h : Nod (E ++ [e])) : Nod E := fun nm => by
  have h1 := h nm
  by_cases c : e.2.name = nm
  · unfold PL at h1
    rw [sel_snoc_yes c, List.flatMap_append, List.map_append, List.nodup_append] at h1
    exact h1.1
  · unfold PL at h1
    rw [sel_snoc_no c] at h1; exact h1
theorem nod_nil : Nod [] := fun nm => by simp [PL, sel]

/-! All types of all services -/
def entsOf (svc : Int) (S : Nat → PSeen) (k : Nat) : List (Int × PSeen) := (List.range k).map (fun j => (svc, S j))
def ents (n : Nat → Nat) (S : Nat → Nat → PSeen) : Nat → List (Int × PSeen)
  | 0 => []
  | i + 1 => ents n S i ++ entsOf (i : Int) (S i) (n i)
theorem entsOf_succ (svc : Int) (S : Nat → PSeen) (k : Nat) : entsOf svc S (k + 1) = entsOf svc S k ++ [(svc, S k)] := by unfold entsOf; rw [List.range_succ, List.map_append]; rfl
theorem Char.fold {L : List PPart} {E : List (Int × PSeen)} (h : Char L E) (svc : Int) (S : Nat → PSeen) : ∀ k, Char (foldT svc L S k) (E ++ entsOf svc S k)
  | 0 => by simpa [foldT, entsOf] using h
  | k + 1 => by
    rw [entsOf_succ, ← List.append_assoc]
    exact (Char.fold h svc S k).step svc (S k)
theorem char_nil : Char [] [] := ⟨fun _ _ _ h => by simp at h, fun i hi => by simp at hi, fun i hi => by simp at hi, fun e he => by simp at he⟩
theorem char_all {n : Nat → Nat} {S : Nat → Nat → PSeen} : ∀ i, Char (allP n S i) (ents n S i)
  | 0 => char_nil
  | i + 1 => (char_all i).fold (i : Int) (S i) (n i)
theorem nod_fold_less {E : List (Int × PSeen)} {svc : Int} {S : Nat → PSeen} : ∀ {k}, Nod (E ++ entsOf svc S k) → Nod E
  | 0, h => by simpa [entsOf] using h
  | k + 1, h => by
    rw [entsOf_succ, ← List.append_assoc] at h
    exact nod_fold_less (nod_less h)
theorem Char.errs {L : List PPart} {E : List (Int × PSeen)} (h : Char L E) (hN : Nod E) (svc : Int) (S : Nat → PSeen) : ∀ k, (∀ j, j < k → errT (foldT svc L S j) (S j) = 0) ↔ Nod (E ++ entsOf svc S k)
  | 0 => by
    refine ⟨fun _ => by simpa [entsOf] using hN, fun _ j hj => absurd hj (Nat.not_lt_zero _)⟩
  | k + 1 => by
    have ih := Char.errs h hN svc S k
    rw [entsOf_succ, ← List.append_assoc]
    constructor
    · intro hh
      have h1 := ih.1 fun j hj => hh j (by omega)
      exact ((h.fold svc S k).err h1 svc (S k)).1 (hh k (by omega))
    · intro hh j hj
      have h1 := nod_less hh
      by_cases e : j < k
      · exact ih.2 h1 j e
      · have : j = k := by omega
        subst this
        exact ((h.fold svc S j).err h1 svc (S j)).2 hh
theorem fault_zero' {n : Nat} {g : Nat → Int} : (fault n g).1 = 0 ↔ ∀ j, j < n → g j = 0 := by
  rcases fault_cases n g with ⟨e, h⟩ | ⟨k, hk, e, hne, -⟩
  · rw [e]; exact ⟨fun _ => h, fun _ => rfl⟩
  · rw [e]; exact ⟨fun h => absurd h hne, fun h => absurd (h k hk) hne⟩
/-- There is no error just if no two fields of one name are called alike. -/
theorem all_zero {n : Nat → Nat} {S : Nat → Nat → PSeen} : ∀ i, (∀ j, j < i → errA n S j = 0) ↔ Nod (ents n S i)
  | 0 => ⟨fun _ => nod_nil, fun _ j hj => absurd hj (Nat.not_lt_zero _)⟩
  | i + 1 => by
    have ih := all_zero (n := n) (S := S) i
    constructor
    · intro h
      have h1 := ih.1 fun j hj => h j (by omega)
      have h2 := h i (by omega)
      unfold errA errV at h2
      exact ((char_all i).errs h1 (i : Int) (S i) (n i)).1 (fault_zero'.1 h2)
    · intro h j hj
      have h1 := nod_fold_less h
      by_cases e : j < i
      · exact ih.2 h1 j e
      · have : j = i := by omega
        subst this
        unfold errA errV
        exact fault_zero'.2 (((char_all j).errs h1 (j : Int) (S j) (n j)).2 h)
theorem mem_ents {n : Nat → Nat} {S : Nat → Nat → PSeen} {e : Int × PSeen} : ∀ {i}, e ∈ ents n S i ↔ ∃ q j, q < i ∧ j < n q ∧ e = ((q : Int), S q j)
  | 0 => by simp [ents]
  | i + 1 => by
    unfold ents
    rw [List.mem_append, mem_ents (i := i)]
    unfold entsOf
    constructor
    · rintro (⟨q, j, h1, h2, h3⟩ | h)
      · exact ⟨q, j, by omega, h2, h3⟩
      · obtain ⟨j, hj, rfl⟩ := List.mem_map.1 h
        exact ⟨i, j, by omega, by simpa using hj, rfl⟩
    · rintro ⟨q, j, h1, h2, h3⟩
      by_cases e : q < i
      · exact .inl ⟨q, j, e, h2, h3⟩
      · have : q = i := by omega
        subst this
        exact .inr (List.mem_map.2 ⟨j, by simpa using h2, h3.symm⟩)
theorem mem_PL {nm : ByteArray} {E : List (Int × PSeen)} {x : LField × POwner} : x ∈ PL nm E ↔ ∃ e ∈ E, e.2.name = nm ∧ ∃ q, q < e.2.nf ∧ x = (e.2.F q, ⟨e.1, e.2.own, e.2.O q⟩) := by
  unfold PL
  rw [List.mem_flatMap]
  constructor
  · rintro ⟨e, he, hx⟩
    unfold sel at he
    rw [List.mem_filter] at he
    obtain ⟨q, hq, rfl⟩ := List.mem_map.1 hx
    exact ⟨e, he.1, eqs_iff.1 he.2, q, by simpa using hq, rfl⟩
  · rintro ⟨e, he, hn, q, hq, rfl⟩
    exact ⟨e, List.mem_filter.2 ⟨he, eqs_iff.2 hn⟩, List.mem_map.2 ⟨q, by simpa using hq, rfl⟩⟩
end Go.Proofs.Ytjjggefmmeminaa

/-
  Plain: the whole is a schema: what MergeRight asks of each part.
-/
namespace Go.Proofs.Ytjjggefmmeminaa
open Go.RowKit Go.Sort

theorem fidx_self {l : List LField} (h : (l.map (·.name)).Nodup) {k : Nat} (hk : k < l.length) : fieldIdx l.length (fun j => l.getD j dF) (l.getD k dF).name = (k : Int) := by
  refine idx_hit hk (eqs_iff.2 rfl) fun j hj => eqs_false.2 fun e => ?_
  have hp := List.pairwise_iff_getElem.1 h j k (by simpa using by omega) (by simpa using hk) hj
  simp only [List.getElem_map] at hp
  apply hp
  simpa [List.getD, hk, show j < l.length by omega] using e

/-- What is right with a part. -/
structure PartRight (n : Nat) (V : Nat → LServ) (L : List PPart) (p : PPart) : Prop where
  olen : p.os.length = p.fs.length
  hlen : p.hs.length ≠ 0
  self : ∀ k, k < p.fs.length → fieldIdx p.fs.length (fsN p) (fsN p k).name = (k : Int)
  find : ∀ k, k < p.fs.length → (fsN p k).kind ≠ 1 → ¬ mfind L (fsN p k).type < 0
  own : ∀ k, k < p.fs.length → ∃ s j q : Nat, s < n ∧ (osN p k).svc = (s : Int) ∧ j < (V s).nt ∧ (seenS (V s) j).own = (osN p k).type ∧ (seenS (V s) j).name = p.name ∧ (∀ j', j' < (V s).nt → (seenS (V s) j').name = p.name → j' = j) ∧ fieldIdx (seenS (V s) j).nf (seenS (V s) j).F (fsN p k).name = (q : Int) ∧ q < (seenS (V s) j).nf ∧ (seenS (V s) j).O q = (osN p k).field

theorem mk_fs (nm : ByteArray) (E : List (Int × PSeen)) (k : Nat) (hk : k < (PL nm E).length) : fsN (mkP nm E) k = ((PL nm E)[k]).1 ∧ osN (mkP nm E) k = ((PL nm E)[k]).2 := by
  unfold fsN osN mkP; simp [List.getD, hk]
theorem mk_len (nm : ByteArray) (E : List (Int × PSeen)) : (mkP nm E).fs.length = (PL nm E).length ∧ (mkP nm E).os.length = (PL nm E).length := by unfold mkP; simp

theorem part_right {n : Nat} {V : Nat → LServ} (h0 : (allF n V).1 = 0) : n ≤ 5 ∧ (∀ j, j < n → (seeE (V j)).1 = 0) ∧ Nod (ents (ntS V) (seenA V) n) ∧ ∀ i, i < (allP (ntS V) (seenA V) n).length → PartRight n V (allP (ntS V) (seenA V) n) (nth (allP (ntS V) (seenA V) n) i) := by
  have hw : (wrongF n V).1 = 0 := by
    unfold allF at h0
    by_cases h : (wrongF n V).1 ≠ 0
    · rw [if_pos h] at h0; exact h0
    · exact Decidable.not_not.1 h
  obtain ⟨hn, hokA⟩ := wrongF_ok hw
  have hok : ∀ j, j < n → (seeE (V j)).1 = 0 := fun j hj => (hokA j hj).1
  have hf : (fault n (errA (ntS V) (seenA V))).1 = 0 := by
    unfold allF at h0
    rw [if_neg (fun h => h hw)] at h0; exact h0
  have hN : Nod (ents (ntS V) (seenA V) n) := (all_zero n).1 (fault_zero.1 hf)
  have hC : Char (allP (ntS V) (seenA V) n) (ents (ntS V) (seenA V) n) := char_all n
  have hRS : ∀ j, j < n → RightS (V j).nt (seenS (V j)) := fun j hj => right_run (seeF_right (hok j hj)) (V j).nc
  refine ⟨hn, hok, hN, fun i hi => ?_⟩
  have hp := hC.part i hi
  have hs := hC.some i hi
  generalize (nth (allP (ntS V) (seenA V) n) i).name = nm at hp hs
  rw [hp]
  obtain ⟨l1, l2⟩ := mk_len nm (ents (ntS V) (seenA V) n)
  have hnod : ((mkP nm (ents (ntS V) (seenA V) n)).fs.map (·.name)).Nodup := by
    have := hN nm
    unfold mkP; simpa [Function.comp_def] using this
  have hmem : ∀ k, k < (mkP nm (ents (ntS V) (seenA V) n)).fs.length → ∃ s j q : Nat, s < n ∧ j < (V s).nt ∧ (seenS (V s) j).name = nm ∧ q < (seenS (V s) j).nf ∧ fsN (mkP nm (ents (ntS V) (seenA V) n)) k = (seenS (V s) j).F q ∧ osN (mkP nm (ents (ntS V) (seenA V) n)) k = ⟨(s : Int), (seenS (V s) j).own, (seenS (V s) j).O q⟩ := fun k hk => by
    rw [l1] at hk
    obtain ⟨e1, e2⟩ := mk_fs nm _ k hk
    obtain ⟨e, he, hen, q, hq, hx⟩ := mem_PL.1 (List.getElem_mem hk)
    obtain ⟨s, j, hs, hj, rfl⟩ := mem_ents.1 he
    exact ⟨s, j, q, hs, hj, hen, hq, by rw [e1, hx]; rfl, by rw [e2, hx]; rfl⟩
  refine ⟨by rw [l1, l2], fun h => hs (by simpa [mkP] using h), fun k hk => fidx_self hnod hk, fun k hk hkind => ?_, fun k hk => ?_⟩
  · obtain ⟨s, j, q, h1, h2, h3, h4, e1, -⟩ := hmem k hk
    rw [e1] at hkind ⊢
    have hfit := ((hRS s h1).fld j h2).fit q h4
    rcases hfit with ⟨h5, -⟩ | ⟨-, k', hk', e⟩
    · exact absurd h5 hkind
    · obtain ⟨i', hi', e'⟩ := hC.has ((s : Int), seenS (V s) k') (mem_ents.2 ⟨s, k', h1, hk', rfl⟩)
      intro hneg
      have := idx_neg.1 hneg i' hi'
      exact eqs_false.1 this (e'.trans e)
  · obtain ⟨s, j, q, h1, h2, h3, h4, e1, e2⟩ := hmem k hk
    have hr := hRS s h1
    have hfi : fieldIdx (seenS (V s) j).nf (seenS (V s) j).F ((seenS (V s) j).F q).name = (q : Int) := idx_hit h4 (eqs_iff.2 rfl) fun m hm => eqs_false.2 fun e => (hr.fld j h2).one m q hm h4 e
    refine ⟨s, j, q, h1, by rw [e2], h2, by rw [e2], h3, fun j' hj' e' => ?_, by rw [e1]; exact hfi, h4, by rw [e2]⟩
    rcases Nat.lt_trichotomy j' j with h | h | h
    · exact absurd (e'.trans h3.symm) (hr.one j' j h h2)
    · exact h
    · exact absurd (h3.trans e'.symm) (hr.one j j' h hj')
end Go.Proofs.Ytjjggefmmeminaa
