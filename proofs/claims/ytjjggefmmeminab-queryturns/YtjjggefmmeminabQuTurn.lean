/-
  What is printed is parsed; what is parsed is right.
-/
import Derived.Test.YtjjggefmmeminabQuPlain
namespace Go.Proofs.Ytjjggefmmeminab
open Go.RowKit Go.Sort Go.PlainAid

/-! What is parsed is right -/
theorem pTail_eq {d : Nat} {s : ByteArray} {rec : Nat → Nat → Except (Int × Nat) (List (Pick d) × Nat × Nat)} {nk f : ByteArray} {i n : Nat} {r : Pick (d + 1) × Nat × Nat} (h : pTail s rec nk f i n = .ok r) :
    (r = (mkPick nk f [], skipB s i, n)) ∨ ∃ q, rec (skipB s i) n = .ok q ∧ r = (mkPick nk f q.1, q.2.1, q.2.2) := by
  unfold pTail at h
  by_cases hc : isAt s (skipB s i) 123 = true
  · rw [if_pos hc] at h
    cases hr : rec (skipB s i) n with
    | error e => rw [hr] at h; cases h
    | ok q => rw [hr] at h; cases h; exact .inr ⟨q, rfl, rfl⟩
  · rw [if_neg hc] at h; cases h; exact .inl rfl
theorem pPick_eq {d : Nat} {s : ByteArray} {rec : Nat → Nat → Except (Int × Nat) (List (Pick d) × Nat × Nat)} {i n : Nat} {r : Pick (d + 1) × Nat × Nat} (h : pPick s rec i n = .ok r) :
    n + 1 ≤ 60 ∧ ∃ nk f j, named f = true ∧ (nk = ⟨#[]⟩ ∨ named nk = true) ∧ pTail s rec nk f j (n + 1) = .ok r := by
  unfold pPick at h
  cases h1 : pName s i with
  | error e => rw [h1] at h; cases h
  | ok q =>
    rw [h1] at h
    replace h : (if 60 < n + 1 then .error (4, q.2) else if isAt s (skipB s q.2) 58 then (match pName s (skipB s q.2 + 1) with | .error e => .error e | .ok r' => pTail s rec q.1 r'.1 r'.2 (n + 1)) else pTail s rec ⟨#[]⟩ q.1 (skipB s q.2) (n + 1)) = Except.ok r := h
    by_cases hm : 60 < n + 1
    · rw [if_pos hm] at h; cases h
    rw [if_neg hm] at h
    refine ⟨by omega, ?_⟩
    by_cases hc : isAt s (skipB s q.2) 58 = true
    · rw [if_pos hc] at h
      cases h2 : pName s (skipB s q.2 + 1) with
      | error e => rw [h2] at h; cases h
      | ok r' => rw [h2] at h; exact ⟨q.1, r'.1, r'.2, pName_named h2, .inr (pName_named h1), h⟩
    · rw [if_neg hc] at h
      exact ⟨⟨#[]⟩, q.1, _, pName_named h1, .inl rfl, h⟩
theorem pick_right {d deep : Nat} {s : ByteArray} {rec : Nat → Nat → Except (Int × Nat) (List (Pick d) × Nat × Nat)} (hr : ∀ i n r, n ≤ 60 → rec i n = .ok r → wL d (deep + 1) n r.1 = (0, r.2.2)) {i n : Nat} {r : Pick (d + 1) × Nat × Nat} (h : pPick s rec i n = .ok r) : wP d deep n r.1 = (0, r.2.2) := by
  obtain ⟨hn, nk, f, j, hf, hk, ht⟩ := pPick_eq h
  have hb : ∀ l : List (Pick d), badName (mkPick nk f l) = false := fun l => by
    unfold badName
    show (!named f || (!emp nk && !named nk)) = false
    rw [hf]
    rcases hk with hk | hk
    · rw [hk]; rfl
    · rw [hk]; simp
  rcases pTail_eq ht with hr' | ⟨q, hq, hr'⟩
  · subst hr'
    unfold wP
    rw [if_neg (by omega), hb, if_neg (by decide)]
    rfl
  · subst hr'
    have h2 := hr _ _ _ (by omega) hq
    unfold wP
    rw [if_neg (by omega), hb, if_neg (by decide)]
    show (if q.1.isEmpty then _ else wL d (deep + 1) (n + 1) q.1) = (0, q.2.2)
    rw [h2]
    split
    · rename_i he
      unfold wL at h2
      by_cases h8 : 8 < deep + 1
      · rw [if_pos h8] at h2; cases h2
      · rw [if_neg h8, if_pos he] at h2; cases h2
    · rfl
theorem picks_right {d deep : Nat} {s : ByteArray} {rec : Nat → Nat → Except (Int × Nat) (List (Pick d) × Nat × Nat)} (hr : ∀ i n r, n ≤ 60 → rec i n = .ok r → wL d (deep + 1) n r.1 = (0, r.2.2)) : ∀ (m : Nat) (acc : List (Pick (d + 1))) (i n : Nat) (r : List (Pick (d + 1)) × Nat × Nat), pPicks s rec m acc i n = .ok r → ∃ R, r.1 = acc ++ R ∧ wR (d + 1) deep n R = (0, r.2.2) ∧ (acc = [] → R ≠ [])
  | 0, _, _, _, _, h => by cases h
  | m + 1, acc, i, n, r, h => by
    rw [pPicks] at h
    by_cases hc : (!acc.isEmpty && isAt s (skipB s i) 125) = true
    · rw [if_pos hc] at h; cases h
      exact ⟨[], by simp, wR_nil _ _ _, fun e => by rw [e] at hc; cases hc⟩
    rw [if_neg hc] at h
    cases h1 : pPick s rec (if acc.isEmpty then i else skipB s i) n with
    | error e => rw [h1] at h; cases h
    | ok q =>
      rw [h1] at h
      have h2 := pick_right hr h1
      obtain ⟨R, e1, e2, -⟩ := picks_right hr m (acc ++ [q.1]) q.2.1 q.2.2 r h
      refine ⟨q.1 :: R, by rw [e1]; simp, ?_, fun _ => by simp⟩
      rw [wR_cons, h2, if_neg (fun hh => hh rfl)]; exact e2
theorem list_right (s : ByteArray) : ∀ (d deep i n : Nat) (r : List (Pick d) × Nat × Nat), deep + d = 9 → 1 ≤ deep → pList s d i n = .ok r → wL d deep n r.1 = (0, r.2.2)
  | 0, _, _, _, _, _, _, h => by cases h
  | d + 1, deep, i, n, r, hd, h1, h => by
    rw [pList] at h
    cases hs : pSign s 123 i with
    | error e => rw [hs] at h; cases h
    | ok j =>
      rw [hs] at h
      obtain ⟨R, e1, e2, e3⟩ := picks_right (deep := deep) (fun i n r _ hr => list_right s d (deep + 1) i n r (by omega) (by omega) hr) _ [] j n r h
      have hR := e3 rfl
      have e1' : r.1 = R := by rw [e1]; rfl
      rw [e1']
      unfold wL
      rw [if_neg (by omega), if_neg (by simpa using hR)]
      exact e2
theorem parse_right {s : ByteArray} {r : ByteArray × ByteArray × List (Pick 8)} (h : parse s = .ok r) : wA 8 r.1 r.2.1 r.2.2 = 0 := by
  unfold parse at h
  by_cases h0 : 1000 < s.size
  · rw [if_pos h0] at h; cases h
  rw [if_neg h0] at h
  unfold pAsk at h
  cases h1 : pName s 0 with
  | error e => rw [h1] at h; cases h
  | ok t =>
    rw [h1] at h
    replace h : (match pSign s 40 t.2 with | .error e => .error e | .ok i => (match pName s i with | .error e => .error e | .ok k => (match pSign s 41 k.2 with | .error e => .error e | .ok j => (match pList s 8 j 0 with | .error e => .error e | .ok r => if skipB s r.2.1 < s.size then .error (2, skipB s r.2.1) else .ok (t.1, k.1, r.1))))) = Except.ok r := h
    cases h2 : pSign s 40 t.2 with
    | error e => rw [h2] at h; cases h
    | ok i =>
      rw [h2] at h
      replace h : (match pName s i with | .error e => .error e | .ok k => (match pSign s 41 k.2 with | .error e => .error e | .ok j => (match pList s 8 j 0 with | .error e => .error e | .ok r => if skipB s r.2.1 < s.size then .error (2, skipB s r.2.1) else .ok (t.1, k.1, r.1)))) = Except.ok r := h
      cases h3 : pName s i with
      | error e => rw [h3] at h; cases h
      | ok k =>
        rw [h3] at h
        replace h : (match pSign s 41 k.2 with | .error e => .error e | .ok j => (match pList s 8 j 0 with | .error e => .error e | .ok r => if skipB s r.2.1 < s.size then .error (2, skipB s r.2.1) else .ok (t.1, k.1, r.1))) = Except.ok r := h
        cases h4 : pSign s 41 k.2 with
        | error e => rw [h4] at h; cases h
        | ok j =>
          rw [h4] at h
          replace h : (match pList s 8 j 0 with | .error e => .error e | .ok r => if skipB s r.2.1 < s.size then .error (2, skipB s r.2.1) else .ok (t.1, k.1, r.1)) = Except.ok r := h
          cases h5 : pList s 8 j 0 with
          | error e => rw [h5] at h; cases h
          | ok q =>
            rw [h5] at h
            replace h : (if skipB s q.2.1 < s.size then (Except.error (2, skipB s q.2.1) : Except (Int × Nat) (ByteArray × ByteArray × List (Pick 8))) else .ok (t.1, k.1, q.1)) = Except.ok r := h
            by_cases h6 : skipB s q.2.1 < s.size
            · rw [if_pos h6] at h; cases h
            rw [if_neg h6] at h
            cases h
            unfold wA
            rw [pName_named h1, pName_named h3]
            show (wL 8 1 0 q.1).1 = 0
            rw [list_right s 8 1 j 0 q (by omega) (by omega) h5]
/-- Where a fault is told. -/
theorem parse_err {s : ByteArray} {x : Int × Nat} (h : parse s = .error x) : x.1 ≠ 0 ∧ x.2 ≤ s.size := by
  unfold parse at h
  by_cases h0 : 1000 < s.size
  · rw [if_pos h0] at h; cases h; exact ⟨by show (3 : Int) ≠ 0; decide, Nat.zero_le _⟩
  rw [if_neg h0] at h
  unfold pAsk at h
  cases h1 : pName s 0 with
  | error e => rw [h1] at h; cases h; exact pName_err (Nat.zero_le _) h1
  | ok t =>
    rw [h1] at h
    replace h : (match pSign s 40 t.2 with | .error e => .error e | .ok i => (match pName s i with | .error e => .error e | .ok k => (match pSign s 41 k.2 with | .error e => .error e | .ok j => (match pList s 8 j 0 with | .error e => .error e | .ok r => if skipB s r.2.1 < s.size then .error (2, skipB s r.2.1) else .ok (t.1, k.1, r.1))))) = Except.error x := h
    cases h2 : pSign s 40 t.2 with
    | error e => rw [h2] at h; cases h; exact pSign_err (pName_at h1).2.1 h2
    | ok i =>
      rw [h2] at h
      replace h : (match pName s i with | .error e => .error e | .ok k => (match pSign s 41 k.2 with | .error e => .error e | .ok j => (match pList s 8 j 0 with | .error e => .error e | .ok r => if skipB s r.2.1 < s.size then .error (2, skipB s r.2.1) else .ok (t.1, k.1, r.1)))) = Except.error x := h
      cases h3 : pName s i with
      | error e => rw [h3] at h; cases h; exact pName_err (pSign_at h2).2 h3
      | ok k =>
        rw [h3] at h
        replace h : (match pSign s 41 k.2 with | .error e => .error e | .ok j => (match pList s 8 j 0 with | .error e => .error e | .ok r => if skipB s r.2.1 < s.size then .error (2, skipB s r.2.1) else .ok (t.1, k.1, r.1))) = Except.error x := h
        cases h4 : pSign s 41 k.2 with
        | error e => rw [h4] at h; cases h; exact pSign_err (pName_at h3).2.1 h4
        | ok j =>
          rw [h4] at h
          replace h : (match pList s 8 j 0 with | .error e => .error e | .ok r => if skipB s r.2.1 < s.size then .error (2, skipB s r.2.1) else .ok (t.1, k.1, r.1)) = Except.error x := h
          cases h5 : pList s 8 j 0 with
          | error e => rw [h5] at h; cases h; exact ((pList_goes s 8) j 0 (pSign_at h4).2 (by omega)).2 _ h5
          | ok q =>
            rw [h5] at h
            replace h : (if skipB s q.2.1 < s.size then .error (2, skipB s q.2.1) else .ok (t.1, k.1, q.1)) = Except.error x := h
            by_cases h6 : skipB s q.2.1 < s.size
            · rw [if_pos h6] at h; cases h; exact ⟨by show (2 : Int) ≠ 0; decide, Nat.le_of_lt h6⟩
            · rw [if_neg h6] at h; cases h

/-! What is printed is parsed -/
/-- Behind a pick: the list's end, or a blank and the next name. -/
def Follow (s : ByteArray) (j : Nat) : Prop := At s j [125] ∨ ∃ y, letterB (UInt8.toNat y : Int) = true ∧ At s j [32, y]
theorem Follow.skip {s : ByteArray} {j : Nat} (h : Follow s j) : isAt s (skipB s j) 58 = false ∧ isAt s (skipB s j) 123 = false ∧ wordB (bt s j) = false ∧ ∃ c : UInt8, At s j [c] ∧ wordB (c.toNat : Int) = false := by
  rcases h with h | ⟨y, hy, h⟩
  · obtain ⟨h1, h2⟩ := h.head
    have e : skipB s j = j := span_stop (by rw [h2]; rfl)
    refine ⟨?_, ?_, by rw [h2]; rfl, 125, h, rfl⟩
    · rw [e]; unfold isAt; rw [h2]; simp
    · rw [e]; unfold isAt; rw [h2]; simp
  · obtain ⟨h1, h2⟩ := h.head
    obtain ⟨h3, h4⟩ := h.tail.head
    have e : skipB s j = j + 1 := by
      unfold skipB
      rw [span_step h1 (by rw [h2]; rfl)]
      exact span_stop (by rw [h4]; exact (letter_not hy).1)
    refine ⟨?_, ?_, by rw [h2]; rfl, 32, (At.app (l := [32]) (m := [y]) h).1, rfl⟩
    · rw [e]; unfold isAt; rw [h4, (letter_not hy).2.1]; simp
    · rw [e]; unfold isAt; rw [h4, (letter_not hy).2.2.1]; simp
theorem isAt_of {s : ByteArray} {i : Nat} {c : UInt8} {l : List UInt8} (h : At s i (c :: l)) : isAt s i (c.toNat : Int) = true := by
  obtain ⟨h1, h2⟩ := h.head
  unfold isAt; rw [h2, decide_eq_true h1]; simp
theorem skip_sign {s : ByteArray} {i : Nat} {c : UInt8} {l : List UInt8} (hc : blankB (c.toNat : Int) = false) (h : At s i (c :: l)) : skipB s i = i := by
  obtain ⟨h1, h2⟩ := h.head
  exact span_stop (by rw [h2]; exact hc)
theorem pSign_read {s : ByteArray} {i : Nat} {c : UInt8} {l : List UInt8} (hc : blankB (c.toNat : Int) = false) (h : At s i (c :: l)) : pSign s (c.toNat : Int) i = .ok (i + 1) := by
  unfold pSign
  rw [skip_sign hc h, isAt_of h]; rfl

def ReadOk (d d' deep : Nat) (s : ByteArray) : Prop := ∀ (i n : Nat) (L : List (Pick d)), n ≤ 60 → (wL d deep n L).1 = 0 → At s i (textL d L).data.toList → ∃ M : List (Pick d'), pList s d' i n = .ok (M, i + (textL d L).size, (wL d deep n L).2) ∧ Alike d d' L M

theorem At.join {s : ByteArray} {i : Nat} {l m : List UInt8} (h : At s i l) (h' : At s (i + l.length) m) : At s i (l ++ m) := by
  obtain ⟨r, hr⟩ := h
  obtain ⟨r', hr'⟩ := h'
  refine ⟨r', ?_⟩
  rw [← List.drop_drop, hr, List.drop_left] at hr'
  rw [hr, hr', List.append_assoc]
theorem textL_head (d : Nat) (l : List (Pick d)) : ∃ r, (textL d l).data.toList = 123 :: r := by
  cases d with
  | zero => exact ⟨_, by rw [textL_zero, data_app, data_app]; rfl⟩
  | succ d => exact ⟨_, by rw [textL_succ, data_app, data_app]; rfl⟩
theorem tail_read {d d' deep : Nat} {s : ByteArray} (ih : ReadOk d d' (deep + 1) s) {j0 jx m : Nat} (hx : skipB s jx = skipB s j0) (nk f : ByteArray) (l : List (Pick d)) (hm : m ≤ 60)
    (h : (l.isEmpty = true ∧ Follow s j0) ∨ (l.isEmpty = false ∧ (wL d (deep + 1) m l).1 = 0 ∧ At s j0 (textL d l).data.toList)) :
    ∃ (q : Pick (d' + 1)) (i2 : Nat), pTail s (pList s d') nk f jx m = .ok (q, i2, if l.isEmpty then m else (wL d (deep + 1) m l).2) ∧ skipB s i2 = skipB s (if l.isEmpty then j0 else j0 + (textL d l).size) ∧ nk = nick q ∧ f = pfield q ∧ Alike d d' l (subs q) := by
  rcases h with ⟨h1, h2⟩ | ⟨h1, h2, h3⟩
  · refine ⟨mkPick nk f [], skipB s jx, ?_, ?_, rfl, rfl, ?_⟩
    · unfold pTail
      rw [hx, h2.skip.2.1, h1]; rfl
    · rw [skip_skip, hx, h1]; rfl
    · rw [List.isEmpty_iff] at h1
      subst h1
      cases d with
      | zero => rfl
      | succ d =>
        cases d' with
        | zero => rfl
        | succ d' => exact ⟨rfl, fun i hi => absurd hi (Nat.not_lt_zero _)⟩
  · obtain ⟨M, hM, hA⟩ := ih j0 m l hm h2 h3
    obtain ⟨r, hr⟩ := textL_head d l
    rw [hr] at h3
    have hs : skipB s j0 = j0 := skip_sign rfl h3
    have hc : isAt s j0 123 = true := isAt_of h3
    refine ⟨mkPick nk f M, j0 + (textL d l).size, ?_, ?_, rfl, rfl, hA⟩
    · unfold pTail
      rw [hx, hs, if_pos hc, hM, h1]; rfl
    · rw [h1]; rfl

/-- A pick that stands there is read. -/
theorem pick_read {d d' deep : Nat} {s : ByteArray} (ih : ReadOk d d' (deep + 1) s) {i n : Nat} {p : Pick (d + 1)} (hw : (wP d deep n p).1 = 0) (hat : At s i (textP (textL d) p).data.toList) (hf : Follow s (i + (textP (textL d) p).size)) :
    ∃ (q : Pick (d' + 1)) (i2 : Nat), pPick s (pList s d') i n = .ok (q, i2, (wP d deep n p).2) ∧ skipB s i2 = skipB s (i + (textP (textL d) p).size) ∧ nick p = nick q ∧ pfield p = pfield q ∧ Alike d d' (subs p) (subs q) := by
  unfold wP at hw ⊢
  by_cases a1 : 60 < n + 1
  · rw [if_pos a1] at hw; cases hw
  rw [if_neg a1] at hw ⊢
  by_cases a2 : badName p = true
  · rw [if_pos a2] at hw; cases hw
  rw [if_neg a2] at hw ⊢
  have hnf : named (pfield p) = true := by
    unfold badName at a2
    cases hh : named (pfield p) with
    | true => rfl
    | false => rw [hh] at a2; exact absurd rfl a2
  have hnk : emp (nick p) = false → named (nick p) = true := fun he => by
    unfold badName at a2
    cases hh : named (nick p) with
    | true => rfl
    | false => rw [hh, he] at a2; simp at a2
  obtain ⟨nm, hnm⟩ : ∃ nm, nm = (if emp (nick p) then pfield p else nick p ++ ⟨#[58]⟩ ++ pfield p) := ⟨_, rfl⟩
  have htx : textP (textL d) p = if (subs p).isEmpty then nm else nm ++ textL d (subs p) := by unfold textP; rw [hnm]
  -- behind the names
  have hend : ∃ c : UInt8, wordB (c.toNat : Int) = false ∧ At s i (nm.data.toList ++ [c]) ∧ isAt s (skipB s (i + nm.size)) 58 = false ∧
      (((subs p).isEmpty = true ∧ Follow s (i + nm.size)) ∨ ((subs p).isEmpty = false ∧ (wL d (deep + 1) (n + 1) (subs p)).1 = 0 ∧ At s (i + nm.size) (textL d (subs p)).data.toList)) ∧ i + (textP (textL d) p).size = (if (subs p).isEmpty then i + nm.size else i + nm.size + (textL d (subs p)).size) := by
    by_cases he : (subs p).isEmpty = true
    · rw [if_pos he] at htx
      rw [htx] at hat hf ⊢
      obtain ⟨f1, f2, -, c, hc, hcw⟩ := hf.skip
      refine ⟨c, hcw, hat.join (by rw [← size_list]; exact hc), f1, .inl ⟨he, hf⟩, by rw [if_pos he]⟩
    · rw [if_neg he] at htx hw
      rw [htx] at hat ⊢
      rw [data_app] at hat
      obtain ⟨g1, g2⟩ := hat.app
      rw [← size_list] at g2
      obtain ⟨r, hr⟩ := textL_head d (subs p)
      have g3 := g2
      rw [hr] at g3
      have g4 : At s (i + nm.size) [123] := (At.app (l := [123]) (m := r) g3).1
      refine ⟨123, rfl, g1.join (by rw [← size_list]; exact g4), ?_, .inr ⟨by simpa using he, hw, g2⟩, by rw [if_neg he, size_app]; omega⟩
      rw [skip_sign rfl g3]
      unfold isAt
      rw [g3.head.2]
      show (_ && ((123 : Int) == 58)) = false
      rw [Bool.and_eq_false_iff]; exact .inr rfl
  obtain ⟨c, hcw, hcat, hno, hrest, hsz⟩ := hend
  rw [hsz]
  have fin : ∀ {q : Pick (d' + 1)} {i2 : Nat}, (if (subs p).isEmpty then (0, n + 1) else wL d (deep + 1) (n + 1) (subs p)).2 = (if (subs p).isEmpty then n + 1 else (wL d (deep + 1) (n + 1) (subs p)).2) := fun {_ _} => by split <;> rfl
  rw [fin (q := dP) (i2 := 0)]
  cases he : emp (nick p) with
  | true =>
    rw [he] at hnm
    have hnm' : nm = pfield p := hnm
    subst hnm'
    have hk : nick p = ⟨#[]⟩ := bytes_inj (by
      have h0 : (nick p).size = 0 := by unfold emp at he; simpa using he
      rw [size_list] at h0
      exact List.eq_nil_of_length_eq_zero h0)
    have h1 := pName_read hnf hcw hcat
    obtain ⟨q, i2, e1, e2, e3, e4, e5⟩ := tail_read (deep := deep) ih (j0 := i + (pfield p).size) (jx := skipB s (i + (pfield p).size)) (m := n + 1) (skip_skip _ _) ⟨#[]⟩ (pfield p) (subs p) (by omega) hrest
    refine ⟨q, i2, ?_, e2, by rw [hk]; exact e3, e4, e5⟩
    unfold pPick
    rw [h1]
    show (if 60 < n + 1 then _ else if isAt s (skipB s (i + (pfield p).size)) 58 then _ else pTail s (pList s d') ⟨#[]⟩ (pfield p) (skipB s (i + (pfield p).size)) (n + 1)) = _
    rw [if_neg a1, hno, if_neg (by decide)]
    exact e1
  | false =>
    rw [he] at hnm
    have hnm' : nm = nick p ++ ⟨#[58]⟩ ++ pfield p := hnm
    have hdat : nm.data.toList ++ [c] = (nick p).data.toList ++ (58 :: ((pfield p).data.toList ++ [c])) := by
      rw [hnm', data_app, data_app]; simp
    rw [hdat] at hcat
    have hsz2 : nm.size = (nick p).size + 1 + (pfield p).size := by rw [hnm', size_app, size_app]; rfl
    obtain ⟨g1, g2⟩ := hcat.app
    rw [← size_list] at g2
    have h1 := pName_read (c := 58) (hnk he) rfl (g1.join (by rw [← size_list]; exact (At.app (l := [58]) (m := (pfield p).data.toList ++ [c]) g2).1))
    have g3 := g2.tail
    have h2 := pName_read hnf hcw g3
    have hsk : skipB s (i + (nick p).size) = i + (nick p).size := skip_sign rfl g2
    obtain ⟨q, i2, e1, e2, e3, e4, e5⟩ := tail_read (deep := deep) ih (j0 := i + nm.size) (jx := i + nm.size) (m := n + 1) rfl (nick p) (pfield p) (subs p) (by omega) hrest
    refine ⟨q, i2, ?_, e2, e3, e4, e5⟩
    unfold pPick
    rw [h1]
    show (if 60 < n + 1 then _ else if isAt s (skipB s (i + (nick p).size)) 58 then (match pName s (skipB s (i + (nick p).size) + 1) with | .error e => Except.error e | .ok r' => pTail s (pList s d') (nick p) r'.1 r'.2 (n + 1)) else _) = _
    rw [if_neg a1, hsk, if_pos (show isAt s (i + (nick p).size) 58 = true from isAt_of g2), h2]
    show pTail s (pList s d') (nick p) (pfield p) (i + (nick p).size + 1 + (pfield p).size) (n + 1) = _
    rw [show i + (nick p).size + 1 + (pfield p).size = i + nm.size by omega]
    exact e1
theorem At.le {s : ByteArray} {i : Nat} {l : List UInt8} (h : At s i l) (h0 : l ≠ []) : i + l.length ≤ s.size := by
  obtain ⟨r, hr⟩ := h
  have := congrArg List.length hr
  rw [List.length_drop, List.length_append, ← size_list] at this
  have h1 : 0 < l.length := by cases l with | nil => exact absurd rfl h0 | cons x l => simp
  omega
theorem textP_first {d : Nat} {p : Pick (d + 1)} (h : badName p = false) : ∃ y l, (textP (textL d) p).data.toList = y :: l ∧ letterB (UInt8.toNat y : Int) = true := by
  have hnf : named (pfield p) = true := by
    unfold badName at h
    cases hh : named (pfield p) with
    | true => rfl
    | false => rw [hh] at h; cases h
  have hnm : ∃ y l, (if emp (nick p) then pfield p else nick p ++ ⟨#[58]⟩ ++ pfield p).data.toList = y :: l ∧ letterB (UInt8.toNat y : Int) = true := by
    cases he : emp (nick p) with
    | true => exact named_cons hnf
    | false =>
      have hnk : named (nick p) = true := by
        unfold badName at h
        cases hh : named (nick p) with
        | true => rfl
        | false => rw [hh, he] at h; simp at h
      obtain ⟨y, l, e1, e2⟩ := named_cons hnk
      exact ⟨y, l ++ 58 :: (pfield p).data.toList, by show (nick p ++ ⟨#[58]⟩ ++ pfield p).data.toList = _; rw [data_app, data_app, e1]; simp, e2⟩
  obtain ⟨y, l, e1, e2⟩ := hnm
  unfold textP
  by_cases hs : (subs p).isEmpty = true
  · rw [if_pos hs]; exact ⟨y, l, e1, e2⟩
  · rw [if_neg hs]; exact ⟨y, l ++ (textL d (subs p)).data.toList, by rw [data_app, e1]; rfl, e2⟩
theorem wP_good {d deep n : Nat} {p : Pick (d + 1)} (h : (wP d deep n p).1 = 0) : badName p = false ∧ n + 1 ≤ 60 := by
  unfold wP at h
  by_cases a1 : 60 < n + 1
  · rw [if_pos a1] at h; cases h
  rw [if_neg a1] at h
  cases hb : badName p with
  | false => exact ⟨rfl, by omega⟩
  | true => rw [hb] at h; cases h
theorem joinB_cons2 (x y : ByteArray) (l : List ByteArray) : (joinB (x :: y :: l)).data.toList = x.data.toList ++ 32 :: (joinB (y :: l)).data.toList := by
  rw [joinB_data, joinB_data]; exact inter_cons _ _ _
theorem alike_cons {d d' : Nat} {p : Pick (d + 1)} {q : Pick (d' + 1)} {R : List (Pick (d + 1))} {M : List (Pick (d' + 1))} (h1 : nick p = nick q) (h2 : pfield p = pfield q) (h3 : Alike d d' (subs p) (subs q)) (h : Alike (d + 1) (d' + 1) R M) : Alike (d + 1) (d' + 1) (p :: R) (q :: M) := by
  refine ⟨by show R.length + 1 = M.length + 1; rw [h.1], fun i hi => ?_⟩
  cases i with
  | zero => exact ⟨h1, h2, h3⟩
  | succ i => exact h.2 i (by have : i + 1 < R.length + 1 := hi; omega)
theorem picks_read {d d' deep : Nat} {s : ByteArray} (ih : ReadOk d d' (deep + 1) s) : ∀ (R : List (Pick (d + 1))) (acc : List (Pick (d' + 1))) (m i0 i n : Nat), R ≠ [] → R.length < m → (wR (d + 1) deep n R).1 = 0 → (if acc.isEmpty then i0 else skipB s i0) = i → (acc.isEmpty = false → isAt s (skipB s i0) 125 = false) → At s i ((joinB (R.map (textP (textL d)))).data.toList ++ [125]) →
    ∃ M, pPicks s (pList s d') m acc i0 n = .ok (acc ++ M, i + (joinB (R.map (textP (textL d)))).size + 1, (wR (d + 1) deep n R).2) ∧ Alike (d + 1) (d' + 1) R M
  | [], _, _, _, _, _, h, _, _, _, _, _ => absurd rfl h
  | p :: R, acc, 0, _, _, _, _, hm, _, _, _, _ => absurd hm (Nat.not_lt_zero _)
  | [p], acc, m + 1, i0, i, n, _, hm, hw, hi, hno, hat => by
    rw [wR_cons] at hw ⊢
    by_cases h0 : (wP d deep n p).1 = 0
    · rw [if_neg (fun hh => hh h0), wR_nil] at hw ⊢
      have ej : joinB ([p].map (textP (textL d))) = textP (textL d) p := joinB_one _
      rw [ej] at hat ⊢
      obtain ⟨g1, g2⟩ := hat.app
      rw [← size_list] at g2
      obtain ⟨q, i2, e1, e2, e3, e4, e5⟩ := pick_read ih h0 g1 (.inl g2)
      rw [skip_sign rfl g2] at e2
      refine ⟨[q], ?_, alike_cons e3 e4 e5 ⟨rfl, fun k hk => absurd hk (Nat.not_lt_zero _)⟩⟩
      have hcond : (!acc.isEmpty && isAt s (skipB s i0) 125) = false := by
        cases ha : acc.isEmpty with
        | true => rfl
        | false => rw [hno ha]; rfl
      rw [pPicks, hcond, if_neg (by decide), hi, e1]
      show pPicks s (pList s d') m (acc ++ [q]) i2 (wP d deep n p).2 = _
      cases m with
      | zero => exact absurd hm (by show ¬ 1 < 0 + 1; omega)
      | succ m =>
        rw [pPicks]
        have hne : (acc ++ [q]).isEmpty = false := by cases acc <;> rfl
        rw [hne, e2, show isAt s (i + (textP (textL d) p).size) 125 = true from isAt_of g2]
        rfl
    · rw [if_pos h0] at hw; exact absurd hw h0
  | p :: p2 :: R, acc, m + 1, i0, i, n, _, hm, hw, hi, hno, hat => by
    rw [wR_cons] at hw ⊢
    by_cases h0 : (wP d deep n p).1 = 0
    · rw [if_neg (fun hh => hh h0)] at hw ⊢
      have ej : (joinB ((p :: p2 :: R).map (textP (textL d)))).data.toList = (textP (textL d) p).data.toList ++ 32 :: (joinB ((p2 :: R).map (textP (textL d)))).data.toList := joinB_cons2 _ _ _
      have es : (joinB ((p :: p2 :: R).map (textP (textL d)))).size = (textP (textL d) p).size + 1 + (joinB ((p2 :: R).map (textP (textL d)))).size := by
        rw [size_list, ej, List.length_append, List.length_cons, ← size_list, ← size_list]; omega
      rw [ej, List.append_assoc] at hat
      obtain ⟨g1, g2⟩ := hat.app
      rw [← size_list] at g2
      have g3 : At s (i + (textP (textL d) p).size + 1) ((joinB ((p2 :: R).map (textP (textL d)))).data.toList ++ [125]) := g2.tail
      -- the next name's first letter
      have hw2 := hw
      rw [wR_cons] at hw2
      have h02 : (wP d deep (wP d deep n p).2 p2).1 = 0 := by
        by_cases hh : (wP d deep (wP d deep n p).2 p2).1 = 0
        · exact hh
        · rw [if_pos hh] at hw2; exact absurd hw2 hh
      obtain ⟨y, l, hy, hyl⟩ := textP_first (wP_good h02).1
      obtain ⟨l2, hl2⟩ : ∃ l2, (joinB ((p2 :: R).map (textP (textL d)))).data.toList = y :: l2 := by
        cases R with
        | nil => exact ⟨l, by show (joinB [textP (textL d) p2]).data.toList = _; rw [joinB_one, hy]⟩
        | cons p3 R => exact ⟨_, by show (joinB (textP (textL d) p2 :: textP (textL d) p3 :: R.map (textP (textL d)))).data.toList = _; rw [joinB_cons2, hy]; rfl⟩
      have g4 := g3
      rw [hl2] at g4
      have hfo : Follow s (i + (textP (textL d) p).size) := by
        refine .inr ⟨y, hyl, ?_⟩
        have : At s (i + (textP (textL d) p).size) ([32, y] ++ (l2 ++ [125])) := by
          rw [hl2] at g2; exact g2
        exact this.app.1
      obtain ⟨q, i2, e1, e2, e3, e4, e5⟩ := pick_read ih h0 g1 hfo
      have hsk : skipB s (i + (textP (textL d) p).size) = i + (textP (textL d) p).size + 1 := by
        obtain ⟨u1, u2⟩ := g2.head
        obtain ⟨u3, u4⟩ := g4.head
        unfold skipB
        rw [span_step u1 (by rw [u2]; rfl)]
        exact span_stop (by rw [u4]; exact (letter_not hyl).1)
      rw [hsk] at e2
      have hcond : (!acc.isEmpty && isAt s (skipB s i0) 125) = false := by
        cases ha : acc.isEmpty with
        | true => rfl
        | false => rw [hno ha]; rfl
      have hne : (acc ++ [q]).isEmpty = false := by cases acc <;> rfl
      have hm' : R.length + 1 + 1 < m + 1 := hm
      obtain ⟨M, hM, hA⟩ := picks_read ih (p2 :: R) (acc ++ [q]) m i2 (i + (textP (textL d) p).size + 1) (wP d deep n p).2 (by simp) (by show R.length + 1 < m; omega) hw (by rw [hne]; exact e2) (fun _ => by
        rw [e2]
        obtain ⟨u3, u4⟩ := g4.head
        unfold isAt; rw [u4, (letter_not hyl).2.2.2]; simp) g3
      refine ⟨q :: M, ?_, alike_cons e3 e4 e5 hA⟩
      rw [pPicks, hcond, if_neg (by decide), hi, e1]
      show pPicks s (pList s d') m (acc ++ [q]) i2 (wP d deep n p).2 = _
      rw [hM, es, List.append_assoc]
      show Except.ok (acc ++ (q :: M), _, _) = _
      congr 3
      omega
    · rw [if_pos h0] at hw; exact absurd hw h0
theorem list_read (s : ByteArray) : ∀ (d d' deep : Nat), deep + d' = 9 → ReadOk d d' deep s
  | 0, d', deep, _ => fun i n L hn hw hat => by
    exfalso
    unfold wL at hw
    by_cases h8 : 8 < deep
    · rw [if_pos h8] at hw; cases hw
    · rw [if_neg h8, nil0 L] at hw; cases hw
  | d + 1, d', deep, hd => fun i n L hn hw hat => by
    unfold wL at hw ⊢
    by_cases h8 : 8 < deep
    · rw [if_pos h8] at hw; cases hw
    rw [if_neg h8] at hw ⊢
    by_cases he : L.isEmpty = true
    · rw [if_pos he] at hw; cases hw
    rw [if_neg he] at hw ⊢
    obtain ⟨e, rfl⟩ : ∃ e, d' = e + 1 := ⟨d' - 1, by omega⟩
    have hL : L ≠ [] := fun h => he (by rw [h]; rfl)
    have hdat : (textL (d + 1) L).data.toList = 123 :: ((joinB (L.map (textP (textL d)))).data.toList ++ [125]) := by rw [textL_succ, data_app, data_app]; rfl
    have hsz : (textL (d + 1) L).size = 1 + (joinB (L.map (textP (textL d)))).size + 1 := by rw [textL_succ, size_app, size_app]; rfl
    rw [hdat] at hat
    have h1 := pSign_read (c := 123) rfl hat
    have hle := hat.tail.le (by simp)
    have hct := joinB_count (L.map (textP (textL d)))
    rw [List.length_map] at hct
    rw [List.length_append, ← size_list] at hle
    have hle' : i + 1 + ((joinB (L.map (textP (textL d)))).size + 1) ≤ s.size := hle
    obtain ⟨M, hM, hA⟩ := picks_read (list_read s d e (deep + 1) (by omega)) L [] (s.size + 1) (i + 1) (i + 1) n hL (by omega) hw rfl (fun h => by cases h) hat.tail
    refine ⟨M, ?_, hA⟩
    rw [pList]
    rw [show pSign s 123 i = .ok (i + 1) from h1]
    show pPicks s (pList s e) (s.size + 1) [] (i + 1) n = _
    rw [hM, hsz]
    show Except.ok (M, _, _) = _
    congr 3
    omega
/-- What is printed is parsed. -/
theorem parse_print {d : Nat} {type key : ByteArray} {L : List (Pick d)} (hw : wA d type key L = 0) (hz : (textA d type key L).size ≤ 1000) : ∃ M, parse (textA d type key L) = .ok (type, key, M) ∧ Alike d 8 L M := by
  generalize hs : textA d type key L = s at *
  have hdat : s.data.toList = type.data.toList ++ (40 :: (key.data.toList ++ (41 :: (textL d L).data.toList))) := by
    rw [← hs]; unfold textA; rw [data_app, data_app, data_app, data_app]; simp
  have hsz : s.size = type.size + 1 + (key.size + 1 + (textL d L).size) := by
    rw [size_list, hdat, List.length_append, List.length_cons, List.length_append, List.length_cons, ← size_list, ← size_list, ← size_list]; omega
  have h0 : At s 0 (type.data.toList ++ (40 :: (key.data.toList ++ (41 :: (textL d L).data.toList)))) := ⟨[], by rw [List.drop_zero, hdat, List.append_nil]⟩
  unfold wA at hw
  by_cases hn : (!named type || !named key) = true
  · rw [if_pos hn] at hw; cases hw
  rw [if_neg hn] at hw
  simp only [Bool.or_eq_true, Bool.not_eq_true', not_or, Bool.not_eq_false] at hn
  obtain ⟨g1, g2⟩ := h0.app
  rw [← size_list, Nat.zero_add] at g2
  have h1 := pName_read (c := 40) hn.1 rfl (g1.join (by rw [← size_list, Nat.zero_add]; exact (At.app (l := [40]) g2).1))
  rw [Nat.zero_add] at h1
  have h2 := pSign_read (c := 40) rfl g2
  obtain ⟨g3, g4⟩ := g2.tail.app
  rw [← size_list] at g4
  have h3 := pName_read (c := 41) hn.2 rfl (g3.join (by rw [← size_list]; exact (At.app (l := [41]) g4).1))
  have h4 := pSign_read (c := 41) rfl g4
  obtain ⟨M, h5, hA⟩ := list_read s d 8 1 (by omega) (type.size + 1 + key.size + 1) 0 L (by omega) hw g4.tail
  refine ⟨M, ?_, hA⟩
  unfold parse
  rw [if_neg (by omega)]
  unfold pAsk
  rw [h1]
  dsimp only
  rw [show pSign s 40 type.size = .ok (type.size + 1) from h2]
  dsimp only
  rw [h3]
  dsimp only
  rw [show pSign s 41 (type.size + 1 + key.size) = .ok (type.size + 1 + key.size + 1) from h4]
  dsimp only
  rw [h5]
  dsimp only
  rw [if_neg]
  have := skip_ge s (type.size + 1 + key.size + 1 + (textL d L).size)
  omega
end Go.Proofs.Ytjjggefmmeminab
