import Derived.Test.YtjjggefmmeminabGreatRfSee
/-
  Plain: what stitchref1 traces is what change makes step by step.
-/
namespace Go.Proofs.YtjjggefmmeminabGreat
open Go.RowKit Go.Sort

def seenAt (txt : Nat → Nat → ByteArray) (i j : Nat) : Bool := !decide ((txt (2 + i) j).size = 0)
/-- The fields of a type that are seen, by their own numbers. -/
def visL (T : Nat → LType) (txt : Nat → Nat → ByteArray) (i : Nat) : List Nat := (List.range (T i).nf).filter (seenAt txt i)
def mkF (n : Nat) (T : Nat → LType) (txt : Nat → Nat → ByteArray) (i j : Nat) : LField := ⟨txt (2 + i) j, ((T i).F j).kind, if ((T i).F j).kind = 1 then ⟨#[]⟩ else txt 1 (pl n (txt 0) ((T i).F j).type).toNat⟩
structure Rel (n : Nat) (T : Nat → LType) (S : Nat → PSeen) (txt : Nat → Nat → ByteArray) : Prop where
  own0 : ∀ i, i < n → txt 0 i = (T i).name
  name : ∀ i, i < n → (S i).name = txt 1 i
  own : ∀ i, i < n → (S i).own = (T i).name
  nf : ∀ i, i < n → (S i).nf = (visL T txt i).length
  F : ∀ i, i < n → ∀ k, k < (S i).nf → (S i).F k = mkF n T txt i ((visL T txt i).getD k 0)
  O : ∀ i, i < n → ∀ k, k < (S i).nf → (S i).O k = ((T i).F ((visL T txt i).getD k 0)).name

theorem vis_mem {T : Nat → LType} {txt : Nat → Nat → ByteArray} {i j : Nat} : j ∈ visL T txt i ↔ j < (T i).nf ∧ (txt (2 + i) j).size ≠ 0 := by
  unfold visL seenAt; rw [List.mem_filter]; simp
theorem vis_nodup (T : Nat → LType) (txt : Nat → Nat → ByteArray) (i : Nat) : (visL T txt i).Nodup := List.Pairwise.filter _ List.nodup_range
theorem vis_get {T : Nat → LType} {txt : Nat → Nat → ByteArray} {i k : Nat} (h : k < (visL T txt i).length) : (visL T txt i).getD k 0 = (visL T txt i)[k] := by simp [List.getD, h]
theorem vis_at {T : Nat → LType} {txt : Nat → Nat → ByteArray} {i k : Nat} (h : k < (visL T txt i).length) : (visL T txt i).getD k 0 < (T i).nf ∧ (txt (2 + i) ((visL T txt i).getD k 0)).size ≠ 0 := by
  rw [vis_get h]; exact vis_mem.1 (List.getElem_mem h)
theorem vis_inj {T : Nat → LType} {txt : Nat → Nat → ByteArray} {i k k' : Nat} (h : k < (visL T txt i).length) (h' : k' < (visL T txt i).length) (e : (visL T txt i).getD k 0 = (visL T txt i).getD k' 0) : k = k' := by
  rw [vis_get h, vis_get h'] at e
  have hp := List.pairwise_iff_getElem.1 (vis_nodup T txt i)
  rcases Nat.lt_trichotomy k k' with h1 | h1 | h1
  · exact absurd e (hp k k' h h' h1)
  · exact h1
  · exact absurd e.symm (hp k' k h' h h1)
theorem vis_find {T : Nat → LType} {txt : Nat → Nat → ByteArray} {i j : Nat} (h : j ∈ visL T txt i) : ∃ k, k < (visL T txt i).length ∧ (visL T txt i).getD k 0 = j := by
  obtain ⟨k, hk, e⟩ := List.getElem_of_mem h
  exact ⟨k, hk, by rw [vis_get hk]; exact e⟩

theorem Rel.pfind {n : Nat} {T : Nat → LType} {S : Nat → PSeen} {txt : Nat → Nat → ByteArray} (h : Rel n T S txt) (s : ByteArray) : pl n (txt 1) s = pfind n S s := idx_congr fun i hi => by rw [h.name i hi]
theorem Rel.fname {n : Nat} {T : Nat → LType} {S : Nat → PSeen} {txt : Nat → Nat → ByteArray} (h : Rel n T S txt) {i k : Nat} (hi : i < n) (hk : k < (S i).nf) : ((S i).F k).name = txt (2 + i) ((visL T txt i).getD k 0) := by rw [h.F i hi k hk]; rfl

/-- A text that is not empty is found alike. -/
theorem Rel.field {n : Nat} {T : Nat → LType} {S : Nat → PSeen} {txt : Nat → Nat → ByteArray} (h : Rel n T S txt) (hS : RightS n S) {t : Nat} (ht : t < n) {s : ByteArray} (hs : s.size ≠ 0) :
    (pl (T t).nf (txt (2 + t)) s < 0 ↔ fieldIdx (S t).nf (S t).F s < 0) ∧ (¬ fieldIdx (S t).nf (S t).F s < 0 → (visL T txt t).getD (fieldIdx (S t).nf (S t).F s).toNat 0 = (pl (T t).nf (txt (2 + t)) s).toNat) := by
  have key : ¬ fieldIdx (S t).nf (S t).F s < 0 → ¬ pl (T t).nf (txt (2 + t)) s < 0 ∧ (visL T txt t).getD (fieldIdx (S t).nf (S t).F s).toNat 0 = (pl (T t).nf (txt (2 + t)) s).toNat := fun hf => by
    obtain ⟨f1, f2, -⟩ := fidx_hit hf
    generalize (fieldIdx (S t).nf (S t).F s).toNat = k at *
    rw [h.fname ht f1] at f2
    have hkl : k < (visL T txt t).length := by rw [← h.nf t ht]; exact f1
    obtain ⟨v1, v2⟩ := vis_at hkl
    have hp : ¬ pl (T t).nf (txt (2 + t)) s < 0 := fun hneg => eqs_false.1 (idx_neg.1 hneg _ v1) f2
    refine ⟨hp, ?_⟩
    obtain ⟨p1, p2, -⟩ := pl_hit hp
    obtain ⟨k', hk', e'⟩ := vis_find (T := T) (txt := txt) (i := t) (vis_mem.2 ⟨p1, by rw [p2]; exact hs⟩)
    have hk'n : k' < (S t).nf := by rw [h.nf t ht]; exact hk'
    by_cases hkk : k = k'
    · rw [hkk]; exact e'
    · exfalso
      have := (hS.fld t ht).ne f1 hk'n hkk
      refine this ?_
      show ((S t).F k).name = ((S t).F k').name
      rw [h.fname ht f1, h.fname ht hk'n, f2, e', p2]
  refine ⟨⟨fun hp => ?_, fun hf => ?_⟩, fun hf => (key hf).2⟩
  · exact Classical.byContradiction fun hf => (key hf).1 hp
  · refine Classical.byContradiction fun hp => ?_
    obtain ⟨p1, p2, -⟩ := pl_hit hp
    obtain ⟨k', hk', e'⟩ := vis_find (T := T) (txt := txt) (i := t) (vis_mem.2 ⟨p1, by rw [p2]; exact hs⟩)
    have hk'n : k' < (S t).nf := by rw [h.nf t ht]; exact hk'
    have := eqs_false.1 (idx_neg.1 hf k' hk'n)
    exact this (by rw [h.fname ht hk'n, e', p2])

theorem empty_bytes {s : ByteArray} (h : s.size = 0) : s = ⟨#[]⟩ := by
  cases s with | mk d => exact congrArg ByteArray.mk (Array.eq_empty_of_size_eq_zero h)

theorem visL_congr {T : Nat → LType} {txt txt' : Nat → Nat → ByteArray} {i : Nat} (h : ∀ j, j < (T i).nf → ((txt' (2 + i) j).size = 0 ↔ (txt (2 + i) j).size = 0)) : visL T txt' i = visL T txt i := by
  unfold visL
  refine List.filter_congr fun j hj => ?_
  unfold seenAt
  have := h j (by simpa using hj)
  rw [decide_eq_decide.2 this]

/-- The own type of a field that leads to one: its number. -/
theorem own_find {n : Nat} {T : Nat → LType} {txt : Nat → Nat → ByteArray} (hT : RightS n (initS T)) (h0 : ∀ i, i < n → txt 0 i = (T i).name) {i j : Nat} (hi : i < n) (hj : j < (T i).nf) (hk : ((T i).F j).kind ≠ 1) : (pl n (txt 0) ((T i).F j).type).toNat < n ∧ ¬ pl n (txt 0) ((T i).F j).type < 0 := by
  rcases (hT.fld i hi).fit j hj with ⟨h1, -⟩ | ⟨-, q, hq, e⟩
  · exact absurd h1 hk
  · have hne : ¬ pl n (txt 0) ((T i).F j).type < 0 := fun hneg => eqs_false.1 (idx_neg.1 hneg q hq) (by rw [h0 q hq]; exact e)
    exact ⟨(pl_hit hne).1, hne⟩

theorem rel_callT {n t : Nat} {T : Nat → LType} {S : Nat → PSeen} {txt : Nat → Nat → ByteArray} {to : ByteArray} (h : Rel n T S txt) (hS : RightS n S) (hT : RightS n (initS T)) (ht : t < n) : Rel n T (callT S t to) (setT txt 1 t to) := by
  have e2 : ∀ i j, setT txt 1 t to (2 + i) j = txt (2 + i) j := fun i j => by unfold setT; rw [if_neg (by omega)]
  have e0 : ∀ j, setT txt 1 t to 0 j = txt 0 j := fun j => by unfold setT; rw [if_neg (by omega)]
  have e1 : ∀ j, setT txt 1 t to 1 j = if j = t then to else txt 1 j := fun j => by unfold setT; by_cases e : j = t <;> simp [e]
  have ev : ∀ i, visL T (setT txt 1 t to) i = visL T txt i := fun i => visL_congr fun j _ => by rw [e2]
  have ep : ∀ s, pl n (setT txt 1 t to 0) s = pl n (txt 0) s := fun s => idx_congr fun j _ => by rw [e0]
  refine ⟨fun i hi => by rw [e0]; exact h.own0 i hi, fun i hi => ?_, h.own, fun i hi => by rw [ev]; exact h.nf i hi, fun i hi k hk => ?_, fun i hi k hk => by rw [ev]; exact h.O i hi k hk⟩
  · show (if i = t then to else (S i).name) = _
    rw [e1, h.name i hi]
  · rw [ev]
    show retype (S t).name to ((S i).F k) = _
    rw [h.F i hi k hk]
    have hkl : k < (visL T txt i).length := by rw [← h.nf i hi]; exact hk
    obtain ⟨v1, v2⟩ := vis_at hkl
    generalize (visL T txt i).getD k 0 = j at *
    unfold mkF retype
    rw [e2, ep]
    by_cases hk1 : ((T i).F j).kind = 1
    · simp only [hk1, if_pos]
      have : eqs (⟨#[]⟩ : ByteArray) (S t).name = false := eqs_false.2 fun e => named_pos (hS.nam t ht) (by rw [← e]; rfl)
      rw [this]; rfl
    · obtain ⟨q1, -⟩ := own_find hT h.own0 hi v1 hk1
      simp only [hk1, if_false]
      generalize (pl n (txt 0) ((T i).F j).type).toNat = q at *
      rw [e1]
      by_cases hqt : q = t
      · rw [hqt, if_pos rfl, h.name t ht]
        have : eqs (txt 1 t) (txt 1 t) = true := eqs_iff.2 rfl
        rw [if_pos this]
      · rw [if_neg hqt]
        have : eqs (txt 1 q) (S t).name = false := eqs_false.2 fun e => by
          rw [← h.name q q1] at e
          exact hS.ne q1 ht hqt e
        rw [this]; rfl

theorem rel_callF {n t f g : Nat} {T : Nat → LType} {S : Nat → PSeen} {txt : Nat → Nat → ByteArray} {to : ByteArray} (h : Rel n T S txt) (ht : t < n) (hf : f < (S t).nf) (hg : (visL T txt t).getD f 0 = g) (hto : to.size ≠ 0) : Rel n T (callF S t f to) (setT txt (2 + t) g to) := by
  have hfl : f < (visL T txt t).length := by rw [← h.nf t ht]; exact hf
  have hgs : (txt (2 + t) g).size ≠ 0 := by rw [← hg]; exact (vis_at hfl).2
  have e0 : ∀ j, setT txt (2 + t) g to 0 j = txt 0 j := fun j => by unfold setT; rw [if_neg (by omega)]
  have e1 : ∀ j, setT txt (2 + t) g to 1 j = txt 1 j := fun j => by unfold setT; rw [if_neg (by omega)]
  have e2 : ∀ i j, setT txt (2 + t) g to (2 + i) j = if i = t ∧ j = g then to else txt (2 + i) j := fun i j => by
    unfold setT
    by_cases e : i = t
    · simp [e]
    · rw [if_neg (by omega), if_neg (fun h' => e h'.1)]
  have ev : ∀ i, visL T (setT txt (2 + t) g to) i = visL T txt i := fun i => visL_congr fun j _ => by
    rw [e2]
    by_cases e : i = t ∧ j = g
    · rw [if_pos e, e.1, e.2]; exact ⟨fun h' => absurd h' hto, fun h' => absurd h' hgs⟩
    · rw [if_neg e]
  have ep : ∀ s, pl n (setT txt (2 + t) g to 0) s = pl n (txt 0) s := fun s => idx_congr fun j _ => by rw [e0]
  refine ⟨fun i hi => by rw [e0]; exact h.own0 i hi, fun i hi => by rw [e1]; exact h.name i hi, h.own, fun i hi => by rw [ev]; exact h.nf i hi, fun i hi k hk => ?_, fun i hi k hk => by rw [ev]; exact h.O i hi k hk⟩
  rw [ev]
  show (if i = t then (fun j => if j = f then { (S t).F j with name := to } else (S t).F j) else (S i).F) k = _
  have hk' : k < (S i).nf := hk
  by_cases hit : i = t
  · subst hit
    rw [if_pos rfl]
    by_cases hkf : k = f
    · subst hkf
      simp only [if_pos]
      rw [h.F i hi k hk', hg]
      have e3 : setT txt (2 + i) g to (2 + i) g = to := by rw [e2, if_pos ⟨rfl, rfl⟩]
      unfold mkF
      rw [e3, ep]
      simp only [e1]
    · simp only [hkf, if_false]
      rw [h.F i hi k hk']
      have hkl : k < (visL T txt i).length := by rw [← h.nf i hi]; exact hk'
      have hne : (visL T txt i).getD k 0 ≠ g := fun e => hkf (vis_inj hkl hfl (e.trans hg.symm))
      have e3 : setT txt (2 + i) g to (2 + i) ((visL T txt i).getD k 0) = txt (2 + i) ((visL T txt i).getD k 0) := by rw [e2, if_neg (fun h' => hne h'.2)]
      unfold mkF
      rw [e3, ep]
      simp only [e1]
  · rw [if_neg hit, h.F i hi k hk']
    have e3 : setT txt (2 + t) g to (2 + i) ((visL T txt i).getD k 0) = txt (2 + i) ((visL T txt i).getD k 0) := by rw [e2, if_neg (fun h' => hit h'.1)]
    unfold mkF
    rw [e3, ep]
    simp only [e1]

theorem filter_erase {l : List Nat} (hn : l.Nodup) {k : Nat} (hk : k < l.length) : l.filter (fun j => !decide (j = l[k])) = l.eraseIdx k := by
  induction l generalizing k with
  | nil => simp at hk
  | cons x xs ih =>
    obtain ⟨h1, h2⟩ := List.nodup_cons.1 hn
    cases k with
    | zero =>
      simp only [List.getElem_cons_zero, List.eraseIdx_cons_zero]
      rw [List.filter_cons_of_neg (by simp)]
      rw [List.filter_eq_self]
      intro a ha
      have : a ≠ x := fun e => h1 (by rw [← e]; exact ha)
      simp [this]
    | succ k =>
      have hk' : k < xs.length := by simpa using hk
      simp only [List.getElem_cons_succ, List.eraseIdx_cons_succ]
      have hx : x ≠ xs[k] := fun e => h1 (by rw [e]; exact List.getElem_mem hk')
      rw [List.filter_cons_of_pos (by simp [hx]), ih h2 hk']

theorem rel_hide {n t f g : Nat} {T : Nat → LType} {S : Nat → PSeen} {txt : Nat → Nat → ByteArray} (h : Rel n T S txt) (ht : t < n) (hf : f < (S t).nf) (hg : (visL T txt t).getD f 0 = g) : Rel n T (hideF S t f) (setT txt (2 + t) g ⟨#[]⟩) := by
  have hfl : f < (visL T txt t).length := by rw [← h.nf t ht]; exact hf
  have e0 : ∀ j, setT txt (2 + t) g ⟨#[]⟩ 0 j = txt 0 j := fun j => by unfold setT; rw [if_neg (by omega)]
  have e1 : ∀ j, setT txt (2 + t) g ⟨#[]⟩ 1 j = txt 1 j := fun j => by unfold setT; rw [if_neg (by omega)]
  have e2 : ∀ i j, setT txt (2 + t) g ⟨#[]⟩ (2 + i) j = if i = t ∧ j = g then ⟨#[]⟩ else txt (2 + i) j := fun i j => by
    unfold setT
    by_cases e : i = t
    · simp [e]
    · rw [if_neg (by omega), if_neg (fun h' => e h'.1)]
  have ep : ∀ s, pl n (setT txt (2 + t) g ⟨#[]⟩ 0) s = pl n (txt 0) s := fun s => idx_congr fun j _ => by rw [e0]
  have ev : ∀ i, i ≠ t → visL T (setT txt (2 + t) g ⟨#[]⟩) i = visL T txt i := fun i hit => visL_congr fun j _ => by rw [e2, if_neg (fun h' => hit h'.1)]
  have et : visL T (setT txt (2 + t) g ⟨#[]⟩) t = (visL T txt t).eraseIdx f := by
    rw [← filter_erase (vis_nodup T txt t) hfl, ← vis_get hfl, hg]
    unfold visL
    rw [List.filter_filter]
    refine List.filter_congr fun j _ => ?_
    unfold seenAt
    rw [e2]
    by_cases e : j = g
    · rw [if_pos ⟨rfl, e⟩]; simp [e]; rfl
    · rw [if_neg (fun h' => e h'.2)]; simp [e]
  have eg : ∀ k, k < (S t).nf - 1 → ((visL T txt t).eraseIdx f).getD k 0 = (visL T txt t).getD (skip f k) 0 := fun k hk => by
    unfold skip
    simp only [List.getD, List.getElem?_eraseIdx]
    by_cases hkf : k < f
    · rw [if_pos hkf, if_pos hkf]
    · rw [if_neg hkf, if_neg hkf]
  have hsk : ∀ k, k < (S t).nf - 1 → skip f k < (S t).nf ∧ skip f k ≠ f := fun k hk => by unfold skip; split <;> omega
  have hlen : ((visL T txt t).eraseIdx f).length = (S t).nf - 1 := by rw [List.length_eraseIdx, if_pos hfl, ← h.nf t ht]
  have hk3 : ∀ i k, i < n → k < (S i).nf → (i = t → k ≠ f) → setT txt (2 + t) g ⟨#[]⟩ (2 + i) ((visL T txt i).getD k 0) = txt (2 + i) ((visL T txt i).getD k 0) := fun i k hi hk hne => by
    rw [e2, if_neg]
    rintro ⟨rfl, e⟩
    exact hne rfl (vis_inj (by rw [← h.nf i hi]; exact hk) hfl (e.trans hg.symm))
  have hmk : ∀ i k, i < n → k < (S i).nf → (i = t → k ≠ f) → mkF n T (setT txt (2 + t) g ⟨#[]⟩) i ((visL T txt i).getD k 0) = mkF n T txt i ((visL T txt i).getD k 0) := fun i k hi hk hne => by
    have e3 := hk3 i k hi hk hne
    unfold mkF
    rw [e3, ep]
    simp only [e1]
  have htt : hideF S t f t = { S t with nf := (S t).nf - 1, F := fun j => (S t).F (skip f j), O := fun j => (S t).O (skip f j) } := by unfold hideF; rw [if_pos rfl]
  have hoo : ∀ i, i ≠ t → hideF S t f i = S i := fun i hi => by unfold hideF; rw [if_neg hi]
  refine ⟨fun i hi => by rw [e0]; exact h.own0 i hi, fun i hi => ?_, fun i hi => ?_, fun i hi => ?_, fun i hi k hk => ?_, fun i hi k hk => ?_⟩
  · rw [e1, ← h.name i hi]
    by_cases e : i = t
    · rw [e, htt]
    · rw [hoo i e]
  · by_cases e : i = t
    · rw [e, htt]; exact h.own t ht
    · rw [hoo i e]; exact h.own i hi
  · by_cases e : i = t
    · rw [e, htt, et, hlen]
    · rw [hoo i e, ev i e]; exact h.nf i hi
  · by_cases e : i = t
    · subst e
      rw [htt] at hk ⊢
      have hk' : k < (S i).nf - 1 := hk
      rw [et, eg k hk', hmk i (skip f k) hi (hsk k hk').1 (fun _ => (hsk k hk').2)]
      exact h.F i hi _ (hsk k hk').1
    · rw [hoo i e] at hk ⊢
      rw [ev i e, hmk i k hi hk (fun e' => absurd e' e)]
      exact h.F i hi k hk
  · by_cases e : i = t
    · subst e
      rw [htt] at hk ⊢
      have hk' : k < (S i).nf - 1 := hk
      rw [et, eg k hk']
      exact h.O i hi _ (hsk k hk').1
    · rw [hoo i e] at hk ⊢
      rw [ev i e]
      exact h.O i hi k hk

/-- In step. -/
theorem rel_step {n : Nat} {T : Nat → LType} {S : Nat → PSeen} {txt : Nat → Nat → ByteArray} (h : Rel n T S txt) (hS : RightS n S) (hT : RightS n (initS T)) (c : PChange) :
    (doR n (initLen n T) txt c).1 = (appS n S c).1 ∧ Rel n T (appS n S c).2 (doR n (initLen n T) txt c).2 := by
  unfold doR appS
  rw [h.pfind]
  by_cases h0 : c.kind ≠ 1 ∧ c.kind ≠ 2 ∧ c.kind ≠ 3
  · rw [if_pos h0, if_pos h0]; exact ⟨rfl, h⟩
  rw [if_neg h0, if_neg h0]
  by_cases h1 : Go.Proofs.YtjjggefmmeminabGreat.pfind n S c.type < 0
  · rw [if_pos h1, if_pos h1]; exact ⟨rfl, h⟩
  rw [if_neg h1, if_neg h1]
  obtain ⟨ht, -, -⟩ := pfind_hit h1
  generalize (Go.Proofs.YtjjggefmmeminabGreat.pfind n S c.type).toNat = t at *
  by_cases h2 : c.kind = 1
  · rw [if_pos h2, if_pos h2]
    unfold callTS
    rw [h.pfind]
    by_cases h3 : (!named c.to || decide (0 ≤ Go.Proofs.YtjjggefmmeminabGreat.pfind n S c.to)) = true
    · rw [if_pos h3, if_pos h3]; exact ⟨rfl, h⟩
    · rw [if_neg h3, if_neg h3]; exact ⟨rfl, rel_callT h hS hT ht⟩
  · rw [if_neg h2, if_neg h2]
    have hlen : initLen n T (2 + t) = (T t).nf := by
      unfold initLen
      rw [if_neg (by omega), show 2 + t - 2 = t by omega]
    unfold doF fieldS
    rw [hlen]
    by_cases hem : c.field.size = 0
    · have hneg : fieldIdx (S t).nf (S t).F c.field < 0 := fidx_none fun i hi e => named_pos ((hS.fld t ht).nam i hi) (by show ((S t).F i).name.size = 0; rw [e]; exact hem)
      rw [if_pos (.inr hem), if_pos hneg]; exact ⟨rfl, h⟩
    obtain ⟨hff, hfv⟩ := h.field hS ht hem
    by_cases h3 : fieldIdx (S t).nf (S t).F c.field < 0
    · rw [if_pos (.inl (hff.2 h3)), if_pos h3]; exact ⟨rfl, h⟩
    rw [if_neg (fun h' => h'.elim (fun h'' => h3 (hff.1 h'')) hem), if_neg h3]
    obtain ⟨hf, -, -⟩ := fidx_hit h3
    have hg := hfv h3
    generalize (fieldIdx (S t).nf (S t).F c.field).toNat = f at *
    generalize (pl (T t).nf (txt (2 + t)) c.field).toNat = g at *
    by_cases h4 : c.kind = 2
    · rw [if_neg (by omega), if_pos h4]
      unfold callFS
      cases hna : named c.to with
      | false => simp only [Bool.not_false, Bool.true_or, if_pos]; exact ⟨trivial, h⟩
      | true =>
        obtain ⟨hto, -⟩ := h.field hS ht (named_pos hna)
        by_cases h5 : 0 ≤ fieldIdx (S t).nf (S t).F c.to
        · have h6 : 0 ≤ pl (T t).nf (txt (2 + t)) c.to := by
            by_cases h7 : pl (T t).nf (txt (2 + t)) c.to < 0
            · have := hto.1 h7; omega
            · omega
          rw [if_pos (show (!true || decide (0 ≤ pl (T t).nf (txt (2 + t)) c.to)) = true by simp [h6]), if_pos (show (!true || decide (0 ≤ fieldIdx (S t).nf (S t).F c.to)) = true by simp [h5])]
          exact ⟨rfl, h⟩
        · have h6 : ¬ 0 ≤ pl (T t).nf (txt (2 + t)) c.to := fun h7 => by
            have := hto.2 (by omega); omega
          rw [if_neg (show ¬ (!true || decide (0 ≤ pl (T t).nf (txt (2 + t)) c.to)) = true by simp; omega), if_neg (show ¬ (!true || decide (0 ≤ fieldIdx (S t).nf (S t).F c.to)) = true by simp; omega)]
          exact ⟨rfl, rel_callF h ht hf hg (named_pos hna)⟩
    · rw [if_pos (by omega), if_neg h4]
      exact ⟨rfl, rel_hide h ht hf hg⟩
theorem rel_init {n : Nat} {T : Nat → LType} (hT : RightS n (initS T)) : Rel n T (initS T) (initTxt T) := by
  have e2 : ∀ i j, initTxt T (2 + i) j = ((T i).F j).name := fun i j => by unfold initTxt; rw [if_neg (by omega), show 2 + i - 2 = i by omega]
  have e1 : ∀ j, initTxt T 1 j = (T j).name := fun j => by unfold initTxt; rw [if_pos (by decide)]
  have e0 : ∀ j, initTxt T 0 j = (T j).name := fun j => by unfold initTxt; rw [if_pos (by decide)]
  have ev : ∀ i, i < n → visL T (initTxt T) i = List.range (T i).nf := fun i hi => by
    unfold visL
    rw [List.filter_eq_self]
    intro j hj
    unfold seenAt
    rw [e2]
    have := named_pos ((hT.fld i hi).nam j (show j < (T i).nf by simpa using hj))
    have h' : ((T i).F j).name.size ≠ 0 := this
    rw [decide_eq_false h']; rfl
  have eg : ∀ i, i < n → ∀ k, k < (T i).nf → (visL T (initTxt T) i).getD k 0 = k := fun i hi k hk => by rw [ev i hi]; simp [List.getD, hk]
  refine ⟨fun i _ => e0 i, fun i _ => (e1 i).symm, fun i _ => rfl, fun i hi => by rw [ev i hi]; simp [initS], fun i hi k hk => ?_, fun i hi k hk => ?_⟩
  · have hk' : k < (T i).nf := hk
    rw [eg i hi k hk']
    show (T i).F k = mkF n T (initTxt T) i k
    unfold mkF
    rw [e2]
    have hfit := (hT.fld i hi).fit k hk'
    by_cases h1 : ((T i).F k).kind = 1
    · rw [if_pos h1]
      rcases hfit with ⟨-, h2⟩ | ⟨h2, -⟩
      · have := empty_bytes h2
        have h3 : ((T i).F k).type = ⟨#[]⟩ := this
        rw [← h3]
      · have h3 : ((T i).F k).kind = 2 ∨ ((T i).F k).kind = 3 := h2
        omega
    · rw [if_neg h1, e1]
      have hne := (own_find hT (fun i _ => e0 i) hi hk' h1).2
      obtain ⟨-, p2, -⟩ := pl_hit hne
      rw [e0] at p2
      rw [p2]
  · have hk' : k < (T i).nf := hk
    rw [eg i hi k hk']; rfl
theorem rel_run {n : Nat} {T : Nat → LType} {C : Nat → PChange} (hT : RightS n (initS T)) : ∀ k, Rel n T (runS n (initS T) C k) (runR n (initLen n T) (initTxt T) C k)
  | 0 => rel_init hT
  | k + 1 => (rel_step (rel_run hT k) (right_run hT k) hT (C k)).2
theorem see_same {n m : Nat} {T : Nat → LType} {C : Nat → PChange} : seeR n T m C = seeF n T m C := by
  unfold seeR seeF
  by_cases h : (wrongS n T).1 ≠ 0
  · rw [if_pos h, if_pos h]
  · rw [if_neg h, if_neg h]
    by_cases h2 : 12 < m
    · rw [if_pos h2, if_pos h2]
    · rw [if_neg h2, if_neg h2]
      have hT : RightS n (initS T) := right_iff.1 (Decidable.not_not.1 h)
      exact fault_congr fun j _ => (rel_step (rel_run hT j) (right_run hT j) hT (C j)).1
end Go.Proofs.YtjjggefmmeminabGreat
