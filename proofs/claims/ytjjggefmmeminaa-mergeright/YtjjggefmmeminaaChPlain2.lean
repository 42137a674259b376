import Derived.Test.YtjjggefmmeminaaJPl
/-
  Plain: one part of changes behind the other; called so, and back.
-/
namespace Go.Proofs.Ytjjggefmmeminaa
open Go.RowKit Go.Sort

/-- Seen alike, whatever the own names are. -/
def SameT (n : Nat) (S S' : Nat → PSeen) : Prop := ∀ i, i < n → (S' i).name = (S i).name ∧ (S' i).nf = (S i).nf ∧ ∀ j, j < (S i).nf → (S' i).F j = (S i).F j
theorem SameT.refl (n : Nat) (S : Nat → PSeen) : SameT n S S := fun _ _ => ⟨rfl, rfl, fun _ _ => rfl⟩
theorem SameT.symm {n : Nat} {S S' : Nat → PSeen} (h : SameT n S S') : SameT n S' S := fun i hi => by
  obtain ⟨h1, h2, h3⟩ := h i hi
  exact ⟨h1.symm, h2.symm, fun j hj => (h3 j (by omega)).symm⟩
theorem SameT.trans {n : Nat} {S S' S'' : Nat → PSeen} (h : SameT n S S') (h' : SameT n S' S'') : SameT n S S'' := fun i hi => by
  obtain ⟨h1, h2, h3⟩ := h i hi
  obtain ⟨k1, k2, k3⟩ := h' i hi
  exact ⟨k1.trans h1, k2.trans h2, fun j hj => (k3 j (by omega)).trans (h3 j hj)⟩
theorem SameT.pfind {n : Nat} {S S' : Nat → PSeen} (h : SameT n S S') (s : ByteArray) : pfind n S' s = pfind n S s := idx_congr fun i hi => by rw [(h i hi).1]
theorem SameT.fidx {n t : Nat} {S S' : Nat → PSeen} (h : SameT n S S') (ht : t < n) (s : ByteArray) : fieldIdx (S' t).nf (S' t).F s = fieldIdx (S t).nf (S t).F s := by
  obtain ⟨-, h2, h3⟩ := h t ht
  rw [h2]
  exact idx_congr fun j hj => by rw [h3 j hj]
theorem SameT.callT {n t : Nat} {S S' : Nat → PSeen} (h : SameT n S S') (ht : t < n) (to : ByteArray) : SameT n (callT S t to) (callT S' t to) := fun i hi => by
  obtain ⟨h1, h2, h3⟩ := h i hi
  refine ⟨?_, h2, fun j hj => ?_⟩
  · show (if i = t then to else (S' i).name) = (if i = t then to else (S i).name)
    rw [h1]
  · show retype (S' t).name to ((S' i).F j) = retype (S t).name to ((S i).F j)
    rw [(h t ht).1, h3 j hj]
theorem SameT.callF {n t f : Nat} {S S' : Nat → PSeen} (h : SameT n S S') (ht : t < n) (to : ByteArray) : SameT n (callF S t f to) (callF S' t f to) := fun i hi => by
  obtain ⟨h1, h2, h3⟩ := h i hi
  refine ⟨h1, h2, fun j hj => ?_⟩
  show (if i = t then (fun j => if j = f then { (S' t).F j with name := to } else (S' t).F j) else (S' i).F) j = (if i = t then (fun j => if j = f then { (S t).F j with name := to } else (S t).F j) else (S i).F) j
  by_cases e : i = t
  · subst e
    have hj' : j < (S i).nf := hj
    simp only [if_pos, h3 j hj']
  · simp only [e, if_false]; exact h3 j hj
theorem SameT.hideF {n t f : Nat} {S S' : Nat → PSeen} (h : SameT n S S') (hf : f < (S t).nf) : SameT n (hideF S t f) (hideF S' t f) := fun i hi => by
  obtain ⟨h1, h2, h3⟩ := h i hi
  by_cases e : i = t
  · subst e
    unfold Go.Proofs.Ytjjggefmmeminaa.hideF
    simp only [if_pos]
    refine ⟨h1, by rw [h2], fun j hj => h3 _ ?_⟩
    unfold skip; split <;> omega
  · unfold Go.Proofs.Ytjjggefmmeminaa.hideF
    simp only [e, if_false]
    exact ⟨h1, h2, h3⟩
theorem SameT.app {n : Nat} {S S' : Nat → PSeen} (h : SameT n S S') (c : PChange) : (appS n S' c).1 = (appS n S c).1 ∧ SameT n (appS n S c).2 (appS n S' c).2 := by
  unfold appS
  rw [h.pfind]
  by_cases h0 : c.kind ≠ 1 ∧ c.kind ≠ 2 ∧ c.kind ≠ 3
  · rw [if_pos h0, if_pos h0]; exact ⟨rfl, h⟩
  rw [if_neg h0, if_neg h0]
  by_cases h1 : Go.Proofs.Ytjjggefmmeminaa.pfind n S c.type < 0
  · rw [if_pos h1, if_pos h1]; exact ⟨rfl, h⟩
  rw [if_neg h1, if_neg h1]
  obtain ⟨ht, -, -⟩ := pfind_hit h1
  generalize (Go.Proofs.Ytjjggefmmeminaa.pfind n S c.type).toNat = t at *
  by_cases h2 : c.kind = 1
  · rw [if_pos h2, if_pos h2]
    unfold callTS
    rw [h.pfind]
    by_cases h3 : (!named c.to || decide (0 ≤ Go.Proofs.Ytjjggefmmeminaa.pfind n S c.to)) = true
    · rw [if_pos h3, if_pos h3]; exact ⟨rfl, h⟩
    · rw [if_neg h3, if_neg h3]; exact ⟨rfl, h.callT ht _⟩
  · rw [if_neg h2, if_neg h2]
    unfold fieldS
    rw [h.fidx ht]
    by_cases h3 : fieldIdx (S t).nf (S t).F c.field < 0
    · rw [if_pos h3, if_pos h3]; exact ⟨rfl, h⟩
    rw [if_neg h3, if_neg h3]
    obtain ⟨hf, -, -⟩ := fidx_hit h3
    generalize (fieldIdx (S t).nf (S t).F c.field).toNat = f at *
    by_cases h4 : c.kind = 2
    · rw [if_pos h4, if_pos h4]
      unfold callFS
      rw [h.fidx ht]
      by_cases h5 : (!named c.to || decide (0 ≤ fieldIdx (S t).nf (S t).F c.to)) = true
      · rw [if_pos h5, if_pos h5]; exact ⟨rfl, h⟩
      · rw [if_neg h5, if_neg h5]; exact ⟨rfl, h.callF ht _⟩
    · rw [if_neg h4, if_neg h4]; exact ⟨rfl, h.hideF hf⟩
theorem SameT.run {n : Nat} {S S' : Nat → PSeen} (h : SameT n S S') (C : Nat → PChange) : ∀ k, SameT n (runS n S C k) (runS n S' C k)
  | 0 => h
  | k + 1 => ((h.run C k).app (C k)).2
theorem SameT.err {n : Nat} {S S' : Nat → PSeen} (h : SameT n S S') (C : Nat → PChange) (k : Nat) : errS n S' C k = errS n S C k := ((h.run C k).app (C k)).1

theorem run_add (n : Nat) (S : Nat → PSeen) (C : Nat → PChange) (a : Nat) : ∀ k, runS n S C (a + k) = runS n (runS n S C a) (fun i => C (a + i)) k
  | 0 => rfl
  | k + 1 => by
    show (appS n (runS n S C (a + k)) (C (a + k))).2 = (appS n (runS n (runS n S C a) (fun i => C (a + i)) k) (C (a + k))).2
    rw [run_add n S C a k]
theorem err_add (n : Nat) (S : Nat → PSeen) (C : Nat → PChange) (a k : Nat) : errS n S C (a + k) = errS n (runS n S C a) (fun i => C (a + i)) k := by unfold errS; rw [run_add]
theorem run_congr {n : Nat} {S : Nat → PSeen} {C C' : Nat → PChange} : ∀ {k : Nat}, (∀ i, i < k → C i = C' i) → runS n S C k = runS n S C' k
  | 0, _ => rfl
  | k + 1, h => by
    show (appS n (runS n S C k) (C k)).2 = (appS n (runS n S C' k) (C' k)).2
    rw [run_congr (fun i hi => h i (by omega)), h k (by omega)]
theorem err_congr {n k : Nat} {S : Nat → PSeen} {C C' : Nat → PChange} (h : ∀ i, i ≤ k → C i = C' i) : errS n S C k = errS n S C' k := by
  unfold errS; rw [run_congr (fun i hi => h i (by omega)), h k (Nat.le_refl _)]

theorem RightS.same {n : Nat} {S S' : Nat → PSeen} (h : RightS n S) (hs : SameT n S S') : RightS n S' := by
  have hN : ∀ i, i < n → (S' i).name = (S i).name := fun i hi => (hs i hi).1
  refine ⟨h.few, fun i hi => by show named (S' i).name = true; rw [hN i hi]; exact h.nam i hi, fun i j hij hj => by show (S' i).name ≠ (S' j).name; rw [hN i (by omega), hN j hj]; exact h.one i j hij hj, fun i hi => ?_⟩
  obtain ⟨-, h2, h3⟩ := hs i hi
  have hf := h.fld i hi
  show RightF n (fun i => (S' i).name) (S' i).nf (S' i).F
  rw [h2]
  refine ⟨hf.few, fun j hj => by rw [h3 j hj]; exact hf.nam j hj, fun a b hab hb => by rw [h3 a (by omega), h3 b hb]; exact hf.one a b hab hb, fun j hj => ?_⟩
  rw [h3 j hj]
  rcases hf.fit j hj with q | ⟨q, k, hk, e⟩
  · exact .inl q
  · exact .inr ⟨q, k, hk, (hN k hk).trans e⟩

theorem fault_less {m a : Nat} {g : Nat → Int} (ha : a ≤ m) (h : (fault a g).1 ≠ 0) : fault m g = fault a g := by
  rcases fault_cases a g with ⟨e, _⟩ | ⟨k, hk, e, h1, h2⟩
  · rw [e] at h; exact absurd rfl h
  · rw [e]; exact fault_hit (by omega) h1 h2
theorem fault_more {m a : Nat} {g : Nat → Int} (ha : a ≤ m) (h : (fault a g).1 = 0) : (fault m g).1 = (fault (m - a) (fun k => g (a + k))).1 ∧ ((fault m g).1 ≠ 0 → (fault m g).2 = (fault (m - a) (fun k => g (a + k))).2 + a) := by
  rw [fault_zero] at h
  rcases fault_cases (m - a) (fun k => g (a + k)) with ⟨e, h1⟩ | ⟨k, hk, e, h1, h2⟩
  · rw [e, fault_none (fun j hj => by
      by_cases hja : j < a
      · exact h j hja
      · have := h1 (j - a) (by omega)
        rw [show a + (j - a) = j by omega] at this; exact this)]
    exact ⟨rfl, fun h => absurd rfl h⟩
  · have e2 : fault m g = (g (a + k), ((a + k : Nat) : Int)) := fault_hit (by omega) h1 (fun j hj => by
      by_cases hja : j < a
      · exact h j hja
      · have := h2 (j - a) (by omega)
        rw [show a + (j - a) = j by omega] at this; exact this)
    rw [e, e2]
    exact ⟨rfl, fun _ => by simp; omega⟩

/-! Called so, and back -/
theorem back_type {n : Nat} {S : Nat → PSeen} {c d : PChange} (h : RightS n S) (hc : c.kind = 1) (hd : d.kind = 1) (h1 : d.type = c.to) (h2 : d.to = c.type) (ok : (appS n S c).1 = 0) : (appS n (appS n S c).2 d).1 = 0 ∧ SameT n S (appS n (appS n S c).2 d).2 := by
  unfold appS at ok
  rw [if_neg (by omega)] at ok
  by_cases hp : pfind n S c.type < 0
  · rw [if_pos hp] at ok; simp at ok
  rw [if_neg hp, if_pos hc] at ok
  obtain ⟨ht, hn, -⟩ := pfind_hit hp
  unfold callTS at ok
  by_cases h3 : (!named c.to || decide (0 ≤ pfind n S c.to)) = true
  · rw [if_pos h3] at ok; simp at ok
  have e1 : (appS n S c).2 = callT S (pfind n S c.type).toNat c.to := by
    unfold appS; rw [if_neg (by omega), if_neg hp, if_pos hc]; unfold callTS; rw [if_neg h3]
  simp at h3
  have hm := pfind_miss (show ¬ 0 ≤ pfind n S c.to by omega)
  rw [e1]
  generalize (pfind n S c.type).toNat = t at *
  have hne : ∀ i, i < n → i ≠ t → (S i).name ≠ c.type := fun i hi hit => by rw [← hn]; exact h.ne hi ht hit
  have hto : c.to ≠ c.type := fun e => hm t ht (by rw [hn, e])
  have p1 : pfind n (callT S t c.to) d.type = (t : Int) := by
    rw [h1]
    refine pfind_one ht (by show (if t = t then c.to else _) = _; rw [if_pos rfl]) fun i hi hit => ?_
    show (if i = t then c.to else (S i).name) ≠ c.to
    rw [if_neg hit]; exact hm i hi
  have p2 : pfind n (callT S t c.to) d.to < 0 := by
    rw [h2]
    refine pfind_none fun i hi => ?_
    show (if i = t then c.to else (S i).name) ≠ c.type
    by_cases hit : i = t
    · rw [if_pos hit]; exact hto
    · rw [if_neg hit]; exact hne i hi hit
  have hnam : named d.to = true := by rw [h2, ← hn]; exact h.nam t ht
  have e2 : appS n (callT S t c.to) d = (0, callT (callT S t c.to) t d.to) := by
    unfold appS
    rw [if_neg (by omega), if_neg (by omega), if_pos hd, p1]
    unfold callTS
    rw [if_neg (by simp [hnam]; omega)]
    rfl
  rw [e2]
  refine ⟨rfl, fun i hi => ⟨?_, rfl, fun j hj => ?_⟩⟩
  · show (if i = t then d.to else (if i = t then c.to else (S i).name)) = (S i).name
    by_cases hit : i = t
    · rw [if_pos hit, h2, hit, hn]
    · rw [if_neg hit, if_neg hit]
  · show retype (if t = t then c.to else (S t).name) d.to (retype (S t).name c.to ((S i).F j)) = (S i).F j
    rw [if_pos rfl, hn, h2]
    unfold retype
    by_cases he : eqs ((S i).F j).type c.type = true
    · rw [if_pos he]
      have : eqs c.to c.to = true := eqs_iff.2 rfl
      simp only [this, if_pos]
      rw [← eqs_iff.1 he]
    · rw [if_neg he]
      have : ¬ eqs ((S i).F j).type c.to = true := fun e => by
        have e' := eqs_iff.1 e
        rcases (h.fld i hi).fit j hj with ⟨_, q⟩ | ⟨_, k, hk, q⟩
        · exact named_pos h3.1 (by rw [← e']; exact q)
        · exact hm k hk (q.trans e')
      rw [if_neg this]

theorem back_field {n : Nat} {S : Nat → PSeen} {c d : PChange} (h : RightS n S) (hc : c.kind = 2) (hd : d.kind = 2) (h0 : d.type = c.type) (h1 : d.field = c.to) (h2 : d.to = c.field) (ok : (appS n S c).1 = 0) : (appS n (appS n S c).2 d).1 = 0 ∧ SameT n S (appS n (appS n S c).2 d).2 := by
  unfold appS at ok
  rw [if_neg (by omega)] at ok
  by_cases hp : pfind n S c.type < 0
  · rw [if_pos hp] at ok; simp at ok
  rw [if_neg hp, if_neg (by omega)] at ok
  obtain ⟨ht, hn, hpt⟩ := pfind_hit hp
  unfold fieldS at ok
  by_cases hq : fieldIdx (S (pfind n S c.type).toNat).nf (S (pfind n S c.type).toNat).F c.field < 0
  · rw [if_pos hq] at ok; simp at ok
  rw [if_neg hq, if_pos hc] at ok
  obtain ⟨hf, hfn, -⟩ := fidx_hit hq
  unfold callFS at ok
  by_cases h3 : (!named c.to || decide (0 ≤ fieldIdx (S (pfind n S c.type).toNat).nf (S (pfind n S c.type).toNat).F c.to)) = true
  · rw [if_pos h3] at ok; simp at ok
  have e1 : (appS n S c).2 = callF S (pfind n S c.type).toNat (fieldIdx (S (pfind n S c.type).toNat).nf (S (pfind n S c.type).toNat).F c.field).toNat c.to := by
    unfold appS; rw [if_neg (by omega), if_neg hp, if_neg (by omega)]; unfold fieldS; rw [if_neg hq, if_pos hc]; unfold callFS; rw [if_neg h3]
  simp at h3
  have hm := fidx_miss (show ¬ 0 ≤ fieldIdx (S (pfind n S c.type).toNat).nf (S (pfind n S c.type).toNat).F c.to by omega)
  rw [e1]
  have p0 : ∀ t f, pfind n (callF S t f c.to) d.type = pfind n S c.type := fun t f => by rw [h0]; rfl
  rw [show (pfind n S c.type).toNat = (pfind n S c.type).toNat from rfl] at *
  generalize htt : (pfind n S c.type).toNat = t at *
  generalize (fieldIdx (S t).nf (S t).F c.field).toNat = f at *
  have hF : (callF S t f c.to t).F = fun j => if j = f then { (S t).F j with name := c.to } else (S t).F j := by
    show (if t = t then _ else _) = _; rw [if_pos rfl]
  have hnf : (callF S t f c.to t).nf = (S t).nf := rfl
  have hR := h.fld t ht
  have hne : ∀ j, j < (S t).nf → j ≠ f → ((S t).F j).name ≠ c.field := fun j hj hjf => by rw [← hfn]; exact hR.ne hj hf hjf
  have hto : c.to ≠ c.field := fun e => hm f hf (by rw [hfn, e])
  have p1 : fieldIdx (callF S t f c.to t).nf (callF S t f c.to t).F d.field = (f : Int) := by
    rw [h1, hF, hnf]
    refine fidx_one hf (by simp) fun j hj hjf => ?_
    simp only [hjf, if_false]; exact hm j hj
  have p2 : fieldIdx (callF S t f c.to t).nf (callF S t f c.to t).F d.to < 0 := by
    rw [h2, hF, hnf]
    refine fidx_none fun j hj => ?_
    by_cases hjf : j = f
    · simp only [hjf, if_pos]; exact hto
    · simp only [hjf, if_false]; exact hne j hj hjf
  have hnam : named d.to = true := by rw [h2, ← hfn]; exact hR.nam f hf
  have e2 : appS n (callF S t f c.to) d = (0, callF (callF S t f c.to) t f d.to) := by
    unfold appS
    rw [p0, if_neg (by omega), if_neg hp, if_neg (by omega), htt]
    unfold fieldS
    rw [p1, if_neg (by omega), if_pos hd]
    unfold callFS
    rw [if_neg (by simp [hnam]; omega)]
    rfl
  rw [e2]
  refine ⟨rfl, fun i hi => ⟨rfl, rfl, fun j hj => ?_⟩⟩
  show (if i = t then (fun j => if j = f then { (callF S t f c.to t).F j with name := d.to } else (callF S t f c.to t).F j) else (callF S t f c.to i).F) j = (S i).F j
  by_cases hit : i = t
  · subst hit
    rw [if_pos rfl, hF]
    by_cases hjf : j = f
    · subst hjf
      simp only [if_pos]
      rw [h2, ← hfn]
    · simp only [hjf, if_false]
  · rw [if_neg hit]
    show (if i = t then _ else (S i).F) j = _
    rw [if_neg hit]
end Go.Proofs.Ytjjggefmmeminaa
