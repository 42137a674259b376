/-
  Plain: in whatever order services stand, there is an error or none, and the parts are the same but for their fields' order.
-/
import Derived.Test.YtjjggefmmeminaaMgRightP
namespace Go.Proofs.Ytjjggefmmeminaa
open Go.RowKit Go.Sort

def revV (n : Nat) (V : Nat → LServ) (j : Nat) : LServ := V (n - 1 - j)
theorem range_rev (n : Nat) : (List.range n).map (fun q => n - 1 - q) = (List.range n).reverse := by
  apply List.ext_getElem
  · simp
  · intro i h1 h2; simp
def blk (V : Nat → LServ) (q : Nat) : List PSeen := (List.range (ntS V q)).map (seenA V q)
theorem ents_snd {V : Nat → LServ} : ∀ i, (ents (ntS V) (seenA V) i).map (·.2) = (List.range i).flatMap (blk V)
  | 0 => rfl
  | i + 1 => by
    unfold ents
    rw [List.map_append, ents_snd i, List.range_succ, List.flatMap_append]
    simp [entsOf, blk, Function.comp_def]
theorem ents_perm {n : Nat} {V : Nat → LServ} : ((ents (ntS (revV n V)) (seenA (revV n V)) n).map (·.2)).Perm ((ents (ntS V) (seenA V) n).map (·.2)) := by
  rw [ents_snd, ents_snd]
  have e : (List.range n).flatMap (blk (revV n V)) = ((List.range n).map (fun q => n - 1 - q)).flatMap (blk V) := by
    rw [List.flatMap_map]; rfl
  rw [e, range_rev]
  exact List.Perm.flatMap_right _ (List.reverse_perm _)

def nameL (nm : ByteArray) (T : List PSeen) : List ByteArray := (T.filter (fun t => eqs t.name nm)).flatMap (fun t => (List.range t.nf).map (fun q => (t.F q).name))
theorem sel_snd (nm : ByteArray) (E : List (Int × PSeen)) : (sel nm E).map (·.2) = (E.map (·.2)).filter (fun t => eqs t.name nm) := by
  unfold sel; rw [List.filter_map]; rfl
theorem PL_names (nm : ByteArray) (E : List (Int × PSeen)) : (PL nm E).map (fun x => x.1.name) = nameL nm (E.map (·.2)) := by
  unfold PL nameL
  rw [← sel_snd, List.map_flatMap, List.flatMap_map]
  simp [pairsOf, Function.comp_def]
theorem nod_perm {E E' : List (Int × PSeen)} (h : (E'.map (·.2)).Perm (E.map (·.2))) : Nod E' ↔ Nod E := by
  have key : ∀ nm, ((PL nm E').map (fun x => x.1.name)).Perm ((PL nm E).map (fun x => x.1.name)) := fun nm => by
    rw [PL_names, PL_names]
    exact List.Perm.flatMap_right _ (h.filter _)
  exact ⟨fun hh nm => (key nm).nodup_iff.1 (hh nm), fun hh nm => (key nm).nodup_iff.2 (hh nm)⟩

theorem all_iff {n : Nat} {V : Nat → LServ} : (allF n V).1 = 0 ↔ n ≤ 5 ∧ (∀ j, j < n → wrongServ (V j) = 0) ∧ Nod (ents (ntS V) (seenA V) n) := by
  have hw : (wrongF n V).1 = 0 ↔ n ≤ 5 ∧ ∀ j, j < n → wrongServ (V j) = 0 := by
    unfold wrongF
    by_cases h5 : 5 < n
    · rw [if_pos h5]; exact ⟨fun h => absurd h (by decide), fun h => absurd h.1 (by omega)⟩
    · rw [if_neg h5, fault_zero]; exact ⟨fun h => ⟨by omega, h⟩, fun h => h.2⟩
  unfold allF
  by_cases h : (wrongF n V).1 ≠ 0
  · rw [if_pos h]
    exact ⟨fun h' => absurd h' h, fun h' => absurd (hw.2 ⟨h'.1, h'.2.1⟩) h⟩
  · rw [if_neg h, fault_zero, all_zero]
    have h0 := hw.1 (Decidable.not_not.1 h)
    exact ⟨fun h' => ⟨h0.1, h0.2, h'⟩, fun h' => h'.2.2⟩
theorem all_rev {n : Nat} {V : Nat → LServ} : (allF n (revV n V)).1 = 0 ↔ (allF n V).1 = 0 := by
  rw [all_iff, all_iff, nod_perm ents_perm]
  constructor
  · rintro ⟨h1, h2, h3⟩
    refine ⟨h1, fun j hj => ?_, h3⟩
    have := h2 (n - 1 - j) (by omega)
    unfold revV at this
    rwa [show n - 1 - (n - 1 - j) = j by omega] at this
  · rintro ⟨h1, h2, h3⟩
    exact ⟨h1, fun j hj => h2 _ (by omega), h3⟩

theorem rise_eq : ∀ {l l' : List ByteArray}, l.Pairwise (fun a b => lt a b = true) → l'.Pairwise (fun a b => lt a b = true) → (∀ x, x ∈ l ↔ x ∈ l') → l = l'
  | [], [], _, _, _ => rfl
  | [], b :: l', _, _, h => absurd ((h b).2 (List.mem_cons_self ..)) (by simp)
  | a :: l, [], _, _, h => absurd ((h a).1 (List.mem_cons_self ..)) (by simp)
  | a :: l, b :: l', h1, h2, h => by
    obtain ⟨p1, q1⟩ := List.pairwise_cons.1 h1
    obtain ⟨p2, q2⟩ := List.pairwise_cons.1 h2
    have e : a = b := by
      rcases List.mem_cons.1 ((h a).1 (List.mem_cons_self ..)) with h3 | h3
      · exact h3
      · rcases List.mem_cons.1 ((h b).2 (List.mem_cons_self ..)) with h4 | h4
        · exact h4.symm
        · have := lt_asym (p1 b h4)
          rw [p2 a h3] at this; cases this
    subst e
    rw [rise_eq q1 q2 fun x => ?_]
    constructor
    · intro hx
      rcases List.mem_cons.1 ((h x).1 (List.mem_cons_of_mem _ hx)) with h3 | h3
      · exact absurd h3.symm (lt_ne (p1 x hx))
      · exact h3
    · intro hx
      rcases List.mem_cons.1 ((h x).2 (List.mem_cons_of_mem _ hx)) with h3 | h3
      · exact absurd h3.symm (lt_ne (p2 x hx))
      · exact h3
theorem names_rise {L : List PPart} (h : Rise L) : (L.map (·.name)).Pairwise (fun a b => lt a b = true) := by
  rw [List.pairwise_iff_getElem]
  intro i j hi hj hij
  have hi' : i < L.length := by simpa using hi
  have hj' : j < L.length := by simpa using hj
  have := h i j hij hj'
  rw [nth_get hi', nth_get hj'] at this
  simpa using this
theorem char_names {L : List PPart} {E : List (Int × PSeen)} (h : Char L E) (x : ByteArray) : x ∈ L.map (·.name) ↔ ∃ t ∈ E.map (·.2), t.name = x := by
  constructor
  · intro hx
    obtain ⟨p, hp, rfl⟩ := List.mem_map.1 hx
    obtain ⟨i, hi, rfl⟩ := List.getElem_of_mem hp
    have hs := h.some i hi
    rw [nth_get hi] at hs
    obtain ⟨e, he⟩ := List.exists_mem_of_ne_nil _ hs
    unfold sel at he
    rw [List.mem_filter] at he
    exact ⟨e.2, List.mem_map.2 ⟨e, he.1, rfl⟩, eqs_iff.1 he.2⟩
  · rintro ⟨t, ht, rfl⟩
    obtain ⟨e, he, rfl⟩ := List.mem_map.1 ht
    obtain ⟨i, hi, e1⟩ := h.has e he
    rw [nth_get hi] at e1
    exact List.mem_map.2 ⟨_, List.getElem_mem hi, e1⟩

/-- What a part and the one of that name, of the services the other way round, have to do with one another. -/
structure Alike (n : Nat) (p p' : PPart) : Prop where
  name : p'.name = p.name
  fs : p'.fs.length = p.fs.length
  os : p.os.length = p.fs.length
  os' : p'.os.length = p.fs.length
  hs : p'.hs.length = p.hs.length
  each : ∀ k, k < p.fs.length → ∃ k' s : Nat, k' < p.fs.length ∧ fieldIdx p'.fs.length (fsN p') (fsN p k).name = (k' : Int) ∧ fsN p' k' = fsN p k ∧ s < n ∧ (osN p k).svc = (s : Int) ∧ (osN p' k').svc = (n : Int) - 1 - (s : Int)

theorem alike_all {n : Nat} {V : Nat → LServ} (h0 : (allF n V).1 = 0) : (allP (ntS (revV n V)) (seenA (revV n V)) n).length = (allP (ntS V) (seenA V) n).length ∧ ∀ i, i < (allP (ntS V) (seenA V) n).length → Alike n (nth (allP (ntS V) (seenA V) n) i) (nth (allP (ntS (revV n V)) (seenA (revV n V)) n) i) := by
  have hN := (all_iff.1 h0).2.2
  have hN' : Nod (ents (ntS (revV n V)) (seenA (revV n V)) n) := (nod_perm ents_perm).2 hN
  have hC : Char (allP (ntS V) (seenA V) n) (ents (ntS V) (seenA V) n) := char_all n
  have hC' : Char (allP (ntS (revV n V)) (seenA (revV n V)) n) (ents (ntS (revV n V)) (seenA (revV n V)) n) := char_all n
  have hperm := ents_perm (n := n) (V := V)
  have hnames : (allP (ntS V) (seenA V) n).map (·.name) = (allP (ntS (revV n V)) (seenA (revV n V)) n).map (·.name) := rise_eq (names_rise hC.rise) (names_rise hC'.rise) fun x => by
    rw [char_names hC, char_names hC']
    constructor
    · rintro ⟨t, ht, e⟩; exact ⟨t, hperm.mem_iff.2 ht, e⟩
    · rintro ⟨t, ht, e⟩; exact ⟨t, hperm.mem_iff.1 ht, e⟩
  have hlen : (allP (ntS (revV n V)) (seenA (revV n V)) n).length = (allP (ntS V) (seenA V) n).length := by
    have := congrArg List.length hnames
    simpa using this.symm
  refine ⟨hlen, fun i hi => ?_⟩
  have hi' : i < (allP (ntS (revV n V)) (seenA (revV n V)) n).length := by rw [hlen]; exact hi
  have hnm : (nth (allP (ntS (revV n V)) (seenA (revV n V)) n) i).name = (nth (allP (ntS V) (seenA V) n) i).name := by
    have h1 : ((allP (ntS V) (seenA V) n).map (·.name))[i]? = ((allP (ntS (revV n V)) (seenA (revV n V)) n).map (·.name))[i]? := by rw [hnames]
    rw [nth_get hi, nth_get hi']
    simpa [hi, hi'] using h1.symm
  have hp := hC.part i hi
  have hp' := hC'.part i hi'
  rw [hnm] at hp'
  generalize (nth (allP (ntS V) (seenA V) n) i).name = nm at hp hp'
  rw [hp, hp']
  have hE' : ∀ s j, s < n → j < (V s).nt → (((n - 1 - s : Nat) : Int), seenS (V s) j) ∈ ents (ntS (revV n V)) (seenA (revV n V)) n := fun s j hs hj => by
    have e : revV n V (n - 1 - s) = V s := by unfold revV; rw [show n - 1 - (n - 1 - s) = s by omega]
    refine mem_ents.2 ⟨n - 1 - s, j, by omega, ?_, ?_⟩
    · show j < (revV n V (n - 1 - s)).nt
      rw [e]; exact hj
    · show _ = (((n - 1 - s : Nat) : Int), seenS (revV n V (n - 1 - s)) j)
      rw [e]
  generalize hEd : ents (ntS V) (seenA V) n = E at *
  generalize ents (ntS (revV n V)) (seenA (revV n V)) n = E' at *
  obtain ⟨l1, l2⟩ := mk_len nm E
  obtain ⟨l1', l2'⟩ := mk_len nm E'
  have hPL : ((PL nm E').map (fun x => x.1.name)).Perm ((PL nm E).map (fun x => x.1.name)) := by
    rw [PL_names, PL_names]; exact List.Perm.flatMap_right _ (hperm.filter _)
  have hpl : (PL nm E').length = (PL nm E).length := by simpa using hPL.length_eq
  have hnod' : ((mkP nm E').fs.map (·.name)).Nodup := by
    have := hN' nm
    unfold mkP; simpa [Function.comp_def] using this
  refine ⟨rfl, by rw [l1, l1', hpl], by rw [l1, l2], by rw [l2', l1, hpl], ?_, fun k hk => ?_⟩
  · have h1 : ((sel nm E').map (·.2)).length = ((sel nm E).map (·.2)).length := by
      rw [sel_snd, sel_snd]; exact (hperm.filter _).length_eq
    unfold mkP; simpa using h1
  · rw [l1] at hk
    obtain ⟨e1, e2⟩ := mk_fs nm E k hk
    obtain ⟨e, he, hen, q, hq, hx⟩ := mem_PL.1 (List.getElem_mem hk)
    rw [← hEd] at he
    obtain ⟨s, j, hs, hj, rfl⟩ := mem_ents.1 he
    have hm : ((seenS (V s) j).F q, (⟨((n - 1 - s : Nat) : Int), (seenS (V s) j).own, (seenS (V s) j).O q⟩ : POwner)) ∈ PL nm E' := mem_PL.2 ⟨_, hE' s j hs hj, hen, q, hq, rfl⟩
    obtain ⟨k', hk', hx'⟩ := List.getElem_of_mem hm
    obtain ⟨e1', e2'⟩ := mk_fs nm E' k' hk'
    have hf : fsN (mkP nm E') k' = fsN (mkP nm E) k := by rw [e1', hx', e1, hx]; rfl
    refine ⟨k', s, by rw [l1]; omega, ?_, hf, hs, by rw [e2, hx], by rw [e2', hx']; show ((n - 1 - s : Nat) : Int) = _; omega⟩
    rw [← hf]
    exact fidx_self hnod' (by rw [l1']; exact hk')
end Go.Proofs.Ytjjggefmmeminaa
