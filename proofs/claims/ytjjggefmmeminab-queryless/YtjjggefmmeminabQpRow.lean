/-
  A row of picks of the call's own, their lists below it.
-/
import Derived.Test.YtjjggefmmeminabQpPick
import Derived.Test.YtjjggefmmeminabRowm
namespace Go.Proofs.Ytjjggefmmeminab
open Go.RowKit Go.Sort Go.PlainAid

def pickCell {d : Nat} (L : List (Pick (d + 1))) (av : Nat → Value) (j : Nat) : Value := if j % 3 = 0 then .string (nick (pickN L (j / 3))) else if j % 3 = 1 then .string (pfield (pickN L (j / 3))) else av (j / 3)
def pickL {d : Nat} (p : Pick (d + 1)) (v : Value) : List Value := [.string (nick p), .string (pfield p), v]
theorem pickN_snoc {d : Nat} {L : List (Pick (d + 1))} {p : Pick (d + 1)} {q : Nat} (h : q < L.length) : pickN (L ++ [p]) q = pickN L q := by simp [pickN, List.getD, List.getElem?_append, h]
theorem pickN_last {d : Nat} {L : List (Pick (d + 1))} {p : Pick (d + 1)} : pickN (L ++ [p]) L.length = p := by simp [pickN, List.getD]
theorem pickCells_app {d : Nat} (L : List (Pick (d + 1))) (p : Pick (d + 1)) (av : Nat → Value) (v : Value) : (List.range ((L.length + 1) * 3)).map (pickCell (L ++ [p]) (fun i => if i = L.length then v else av i)) = (List.range (L.length * 3)).map (pickCell L av) ++ pickL p v := by
  rw [show (L.length + 1) * 3 = L.length * 3 + 1 + 1 + 1 by omega, List.range_succ, List.range_succ, List.range_succ]
  simp only [List.map_append, List.map_cons, List.map_nil, List.append_assoc]
  have e1 : (List.range (L.length * 3)).map (pickCell (L ++ [p]) (fun i => if i = L.length then v else av i)) = (List.range (L.length * 3)).map (pickCell L av) := by
    refine List.map_congr_left fun j hj => ?_
    have hj' : j < L.length * 3 := by simpa using hj
    unfold pickCell
    have e : (fun i => if i = L.length then v else av i) (j / 3) = av (j / 3) := if_neg (by omega)
    rw [pickN_snoc (by omega), e]
  have e2 : (fun i => if i = L.length then v else av i) L.length = v := if_pos rfl
  rw [e1]
  unfold pickCell pickL
  rw [if_pos (by omega), if_neg (by omega), if_pos (by omega), if_neg (by omega), if_neg (by omega), show L.length * 3 / 3 = L.length by omega, show (L.length * 3 + 1) / 3 = L.length by omega, show (L.length * 3 + 1 + 1) / 3 = L.length by omega, pickN_last, e2]
  rfl

structure LRow (N0 d : Nat) (w : World) (v : Value) (L : List (Pick (d + 1))) (av : Nat → Value) : Prop where
  row : Row w N0 63 3 v L.length (pickCell L av)
  sub : ∀ i, i < L.length → ∃ A C, av i = .slice A (subs (pickN L i)).length C ∧ (subs (pickN L i)).length ≤ C ∧ Small (nick (pickN L i)) ∧ Small (pfield (pickN L i)) ∧ PicksFree (fun q => q < N0 ∨ v.ownBlock = some q) w d A (subs (pickN L i))
theorem LRow.nil (N0 d : Nat) (w : World) (av : Nat → Value) : LRow N0 d w (.slice none 0 0) [] av := ⟨⟨rfl, .inl ⟨rfl, rfl⟩⟩, fun _ hi => absurd hi (Nat.not_lt_zero _)⟩
theorem LRow.move {N0 d : Nat} {w w' : World} {v : Value} {L : List (Pick (d + 1))} {av : Nat → Value} (h : LRow N0 d w v L av) (hs : w.heap.size ≤ w'.heap.size) (hk : ∀ k, k < w.heap.size → N0 ≤ k → w'.heap[k]? = w.heap[k]?) : LRow N0 d w' v L av :=
  ⟨h.row.at fun k hk' => hk k (h.row.lt hk').2 (h.row.lt hk').1, fun i hi => let ⟨A, C, e, hc, s0, s1, hf⟩ := h.sub i hi; ⟨A, C, e, hc, s0, s1, hf.step hs (fun k h1 h2 => hk k h1 (by
    rcases Nat.lt_or_ge k N0 with h3 | h3
    · exact absurd (Or.inl h3) h2
    · exact h3)) (fun k _ hx => hx)⟩⟩
theorem LRow.away {N0 d b : Nat} {w w' : World} {v : Value} {L : List (Pick (d + 1))} {av : Nat → Value} (h : LRow N0 d w v L av) (hA : Away b w w') (hb : b < N0) : LRow N0 d w' v L av :=
  h.move hA.size fun k hk hn => hA.block k hk (by omega)
theorem LRow.kept {N0 d : Nat} {w w' : World} {v : Value} {L : List (Pick (d + 1))} {av : Nat → Value} (h : LRow N0 d w v L av) (hB : Below w.heap.size w w') : LRow N0 d w' v L av :=
  h.move hB.size fun k hk _ => hB.block k hk
theorem LRow.app {N0 d B : Nat} {w w' : World} {v v' : Value} {L : List (Pick (d + 1))} {av : Nat → Value} {p : Pick (d + 1)} {A : Option Addr} {C : Nat} (h : LRow N0 d w v L av) (hC : (subs p).length ≤ C) (s0 : Small (nick p)) (s1 : Small (pfield p)) (hf : PicksFree (fun k => k < B) w d A (subs p)) (hB : N0 ≤ B) (hv : ∀ k, v.ownBlock = some k → k < B)
    (hown : w'.ownsRow N0 63 3 v' (L.length + 1) ((List.range (L.length * 3)).map (pickCell L av) ++ pickL p (.slice A (subs p).length C))) (hg : w.grownBy w' v.ownBlock) (hv' : v'.ownBlock = v.ownBlock ∨ v'.ownBlock = some w.heap.size) :
    LRow N0 d w' v' (L ++ [p]) (fun i => if i = L.length then .slice A (subs p).length C else av i) := by
  have hl : (L ++ [p]).length = L.length + 1 := by simp
  refine ⟨?_, fun i hi => ?_⟩
  · unfold Row; rw [hl, pickCells_app]; exact hown
  · rw [hl] at hi
    rcases Nat.lt_succ_iff_lt_or_eq.1 hi with hi' | hi'
    · obtain ⟨A1, C1, e1, h1, h2, h3, h4⟩ := h.sub i hi'
      rw [pickN_snoc hi', if_neg (by omega)]
      refine ⟨A1, C1, e1, h1, h2, h3, h4.step hg.size (fun k hk hx => hg.block k hk (fun e => hx (.inr e.symm))) (fun k hk hx => ?_)⟩
      rcases hx with hx | hx
      · exact .inl hx
      · rcases hv' with e | e
        · exact .inr (by rw [← e]; exact hx)
        · rw [e] at hx; cases hx; omega
    · subst hi'
      rw [pickN_last, if_pos rfl]
      refine ⟨A, C, rfl, hC, s0, s1, hf.step hg.size (fun k hk hx => hg.block k hk (fun e => hx (hv k e.symm))) (fun k hk hx => ?_)⟩
      rcases hx with hx | hx
      · show k < B; omega
      · rcases hv' with e | e
        · exact hv k (by rw [← e]; exact hx)
        · rw [e] at hx; cases hx; omega
theorem LRow.out {N0 d : Nat} {w : World} {v : Value} {L : List (Pick (d + 1))} {av : Nat → Value} (h : LRow N0 d w v L av) (hm : L.length ≤ maxLen) : ∃ a cap, v = .slice a L.length cap ∧ L.length ≤ cap ∧ PicksFree (fun k => k < N0) w (d + 1) a L := by
  rcases h.row.shape with ⟨e, h0⟩ | ⟨g, cap, e, hg, hc, -⟩
  · have : L = [] := List.eq_nil_of_length_eq_zero h0
    subst this
    exact ⟨none, 0, e, Nat.le_refl _, PicksFree.none⟩
  · subst e
    refine ⟨_, cap, rfl, hc, fun w' hw' => ⟨hm, fun i hi => ?_⟩⟩
    obtain ⟨A, C, e1, h1, h2, h3, h4⟩ := h.sub i hi
    have hr : Row w' N0 63 3 (.slice (some ⟨g, 0, none⟩) L.length cap) L.length (pickCell L av) := h.row.at fun k hk => hw' k (h.row.lt hk).2 (by
      have := (h.row.lt hk).1
      show ¬ k < N0; omega)
    have c0 := hr.cell (j := i * 3) (by omega)
    have c1 := hr.cell (j := i * 3 + 1) (by omega)
    have c2 := hr.cell (j := i * 3 + 2) (by omega)
    unfold pickCell at c0 c1 c2
    rw [if_pos (by omega), show i * 3 / 3 = i by omega] at c0
    rw [if_neg (by omega), if_pos (by omega), show (i * 3 + 1) / 3 = i by omega] at c1
    rw [if_neg (by omega), if_neg (by omega), show (i * 3 + 2) / 3 = i by omega, e1] at c2
    exact ⟨g, 0, A, C, rfl, by rw [Nat.zero_add]; exact c0, by rw [Nat.zero_add]; exact c1, by rw [Nat.zero_add]; exact c2, h1, h2, h3, h4 w' fun k hk hx => hw' k hk (fun hlt => hx (.inl hlt))⟩

/-- Names that are read are small. -/
theorem pPick_small {d : Nat} {s : ByteArray} {rec : Nat → Nat → Except (Int × Nat) (List (Pick d) × Nat × Nat)} {i n : Nat} {r : Pick (d + 1) × Nat × Nat} (h : pPick s rec i n = .ok r) : Small (nick r.1) ∧ Small (pfield r.1) ∧ r.2.2 = r.2.2 := by
  have sm : ∀ {x : ByteArray}, x.size ≤ 12 → Small x := fun hx => by unfold Small maxLen; omega
  have tl : ∀ {nk f : ByteArray} {i n : Nat}, Small nk → Small f → pTail s rec nk f i n = .ok r → Small (nick r.1) ∧ Small (pfield r.1) ∧ r.2.2 = r.2.2 := fun {nk f i n} h1 h2 h3 => by
    unfold pTail at h3
    by_cases hc : isAt s (skipB s i) 123 = true
    · rw [if_pos hc] at h3
      cases hr : rec (skipB s i) n with
      | error e => rw [hr] at h3; cases h3
      | ok q => rw [hr] at h3; cases h3; exact ⟨h1, h2, rfl⟩
    · rw [if_neg hc] at h3; cases h3; exact ⟨h1, h2, rfl⟩
  unfold pPick at h
  cases h1 : pName s i with
  | error e => rw [h1] at h; cases h
  | ok q =>
    rw [h1] at h
    have h12 := (pName_at h1).2.2
    replace h : (if 60 < n + 1 then .error (4, q.2) else if isAt s (skipB s q.2) 58 then (match pName s (skipB s q.2 + 1) with | .error e => .error e | .ok r' => pTail s rec q.1 r'.1 r'.2 (n + 1)) else pTail s rec ⟨#[]⟩ q.1 (skipB s q.2) (n + 1)) = Except.ok r := h
    by_cases hm : 60 < n + 1
    · rw [if_pos hm] at h; cases h
    rw [if_neg hm] at h
    by_cases hc : isAt s (skipB s q.2) 58 = true
    · rw [if_pos hc] at h
      cases h2 : pName s (skipB s q.2 + 1) with
      | error e => rw [h2] at h; cases h
      | ok r' =>
        rw [h2] at h
        exact tl (sm h12) (sm (pName_at h2).2.2) h
    · rw [if_neg hc] at h
      exact tl (sm (by show (0 : Nat) ≤ 12; omega)) (sm h12) h
/-- A pick is counted. -/
theorem pPick_count {d : Nat} {s : ByteArray} {rec : Nat → Nat → Except (Int × Nat) (List (Pick d) × Nat × Nat)} (hr : ∀ i n r, rec i n = .ok r → n ≤ r.2.2) {i n : Nat} {r : Pick (d + 1) × Nat × Nat} (h : pPick s rec i n = .ok r) : n + 1 ≤ r.2.2 := by
  have tl : ∀ {nk f : ByteArray} {i m : Nat}, pTail s rec nk f i m = .ok r → m ≤ r.2.2 := fun {nk f i m} h3 => by
    unfold pTail at h3
    by_cases hc : isAt s (skipB s i) 123 = true
    · rw [if_pos hc] at h3
      cases hq : rec (skipB s i) m with
      | error e => rw [hq] at h3; cases h3
      | ok q => rw [hq] at h3; cases h3; exact hr _ _ _ hq
    · rw [if_neg hc] at h3; cases h3; exact Nat.le_refl _
  unfold pPick at h
  cases h1 : pName s i with
  | error e => rw [h1] at h; cases h
  | ok q =>
    rw [h1] at h
    replace h : (if 60 < n + 1 then .error (4, q.2) else if isAt s (skipB s q.2) 58 then (match pName s (skipB s q.2 + 1) with | .error e => .error e | .ok r' => pTail s rec q.1 r'.1 r'.2 (n + 1)) else pTail s rec ⟨#[]⟩ q.1 (skipB s q.2) (n + 1)) = Except.ok r := h
    by_cases hm : 60 < n + 1
    · rw [if_pos hm] at h; cases h
    rw [if_neg hm] at h
    by_cases hc : isAt s (skipB s q.2) 58 = true
    · rw [if_pos hc] at h
      cases h2 : pName s (skipB s q.2 + 1) with
      | error e => rw [h2] at h; cases h
      | ok r' => rw [h2] at h; exact tl h
    · rw [if_neg hc] at h; exact tl h
theorem pPicks_count {d : Nat} {s : ByteArray} {rec : Nat → Nat → Except (Int × Nat) (List (Pick d) × Nat × Nat)} (hr : ∀ i n r, rec i n = .ok r → n ≤ r.2.2) : ∀ (m : Nat) (acc : List (Pick (d + 1))) (i n : Nat) (r : List (Pick (d + 1)) × Nat × Nat), pPicks s rec m acc i n = .ok r → n ≤ r.2.2
  | 0, _, _, _, _, h => by cases h
  | m + 1, acc, i, n, r, h => by
    rw [pPicks] at h
    by_cases hc : (!acc.isEmpty && isAt s (skipB s i) 125) = true
    · rw [if_pos hc] at h; cases h; exact Nat.le_refl _
    rw [if_neg hc] at h
    cases h1 : pPick s rec (if acc.isEmpty then i else skipB s i) n with
    | error e => rw [h1] at h; cases h
    | ok q =>
      rw [h1] at h
      have h2 := pPick_count hr h1
      have h3 := pPicks_count hr m _ _ _ r h
      omega
theorem pList_count (s : ByteArray) : ∀ (d i n : Nat) (r : List (Pick d) × Nat × Nat), pList s d i n = .ok r → n ≤ r.2.2
  | 0, _, _, _, h => by cases h
  | d + 1, i, n, r, h => by
    rw [pList] at h
    cases h1 : pSign s 123 i with
    | error e => rw [h1] at h; cases h
    | ok j => rw [h1] at h; exact pPicks_count (pList_count s d) _ _ _ _ r h
end Go.Proofs.Ytjjggefmmeminab
