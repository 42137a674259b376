/-
  The contract of stitchref4.Walk's name.
-/
import Derived.Test.YtjjggefmmeminaaRpRead
namespace Go.Proofs.Ytjjggefmmeminaa
open Go.RowKit Go.Sort Go.PlainAid

/-- Where a name ends, of whatever stands there. -/
def rend (s : ByteArray) (k : Nat) : Nat := if decide (k < s.size) && letterB (bt s k) then wend s k else k
theorem rend_le {s : ByteArray} {k : Nat} (h : k ≤ s.size) : k ≤ rend s k ∧ rend s k ≤ s.size := by
  unfold rend
  split
  · exact ⟨wend_ge s k, wend_le h⟩
  · exact ⟨Nat.le_refl _, h⟩
theorem pName_rend (s : ByteArray) (i : Nat) : pName s i = if rend s (skipB s i) = skipB s i then .error (2, skipB s i) else if 12 < rend s (skipB s i) - skipB s i then .error (6, skipB s i) else .ok (s.extract (skipB s i) (rend s (skipB s i)), rend s (skipB s i)) := by
  unfold pName rend
  generalize skipB s i = k
  cases h : (decide (k < s.size) && letterB (bt s k)) with
  | false => simp
  | true =>
    simp only [Bool.and_eq_true, decide_eq_true_eq] at h
    have h4 : wend s k = wend s (k + 1) := span_step h.1 (by unfold wordB; rw [h.2]; rfl)
    have h5 := wend_ge s (k + 1)
    show (if 12 < wend s k - k then _ else _) = if wend s k = k then _ else if 12 < wend s k - k then _ else _
    rw [if_neg (show ¬ wend s k = k by omega)]
    rfl
/-- Does what stands at j belong to a name that begins at k? -/
def goesOn (s : ByteArray) (k j : Nat) : Bool := letterB (bt s j) || (decide (j ≠ k) && digitB (bt s j))
theorem goesOn_bt {s : ByteArray} {k j : Nat} : goesOn s k j = !((!(decide (97 ≤ bt s j) && decide (bt s j ≤ 122))) && (decide (j = k) || !(decide (48 ≤ bt s j) && decide (bt s j ≤ 57)))) := by
  unfold goesOn letterB digitB
  by_cases h : j = k
  · simp [h]
  · simp [h]

theorem span_is {s : ByteArray} {f : Int → Bool} : ∀ (m i j : Nat), j - i = m → i ≤ j → j ≤ s.size → (∀ q, i ≤ q → q < j → f (bt s q) = true) → (j < s.size → f (bt s j) = false) → span s f i = j
  | 0, i, j, hm, hij, hj, _, hs => by
    have : i = j := by omega
    subst this
    by_cases h : i < s.size
    · exact span_stop (hs h)
    · exact span_end (by omega)
  | m + 1, i, j, hm, hij, hj, hf, hs => by
    rw [span_step (by omega) (hf i (Nat.le_refl _) (by omega))]
    exact span_is m (i + 1) j (by omega) (by omega) hj (fun q h1 h2 => hf q (by omega) h2) hs
theorem rend_is {s : ByteArray} {k j : Nat} (hkj : k ≤ j) (hj : j ≤ s.size) (hg : ∀ q, k ≤ q → q < j → goesOn s k q = true) (hs : j < s.size → goesOn s k j = false) : rend s k = j := by
  rcases Nat.lt_or_eq_of_le hkj with h | h
  · have h0 := hg k (Nat.le_refl _) h
    have hl : letterB (bt s k) = true := by unfold goesOn at h0; simpa using h0
    unfold rend
    rw [hl, decide_eq_true (show k < s.size by omega)]
    show wend s k = j
    refine span_is _ k j rfl hkj hj (fun q h1 h2 => ?_) (fun h1 => ?_)
    · have := hg q h1 h2
      unfold goesOn at this
      unfold wordB
      cases a : letterB (bt s q) with
      | true => rfl
      | false => rw [a] at this; simp at this; simp [this.2]
    · have := hs h1
      unfold goesOn at this
      unfold wordB
      have hjk : decide (j ≠ k) = true := decide_eq_true (by omega)
      rw [hjk] at this
      simpa using this
  · subst h
    unfold rend
    by_cases h1 : k < s.size
    · have := hs h1
      have hl : letterB (bt s k) = false := by
        unfold goesOn at this
        cases a : letterB (bt s k) with
        | false => rfl
        | true => rw [a] at this; cases this
      rw [hl, Bool.and_false]; rfl
    · rw [decide_eq_false h1]; rfl

set_option maxRecDepth 100000 in
set_option maxHeartbeats 2000000 in
theorem rname_bad (b : Nat) (s : ByteArray) (y : Int × Nat) (w : World) (hb : WBad w b s y) :
    Calls Try.prog 87 #[.pointer (some ⟨b, 0, none⟩)] w fun e w' => e = .returned (.string ⟨#[]⟩) ∧ w' = w := by
  obtain ⟨h0, i, n, -, hb⟩ := hb
  have hcl := ok_any b s i n y.1 y.2 w hb
  have h0' : (y.1 == 0) = false := by simpa using h0
  rw [h0'] at hcl
  clear hb h0 h0'
  go_enter Try.func87, Try.ntmps87
  go_wp2_with fail
  refine hcl.mono ?_
  clear hcl
  rintro r w1 ⟨rfl, rfl⟩
  go_wp2_with fail
  go_ret
  exact ⟨rfl, rfl⟩

set_option maxRecDepth 100000 in
set_option maxHeartbeats 8000000 in
theorem rname_ok (b : Nat) (s : ByteArray) (i n : Nat) (w : World) (hb : WBox w b s i n 0 0) (hi : i ≤ s.size) (hs : s.size ≤ 1000) :
    Calls Try.prog 87 #[.pointer (some ⟨b, 0, none⟩)] w fun e w' => (∃ t, e = .returned (.string t) ∧ ∀ r, pName s i = .ok r → t = r.1) ∧ (∀ r, pName s i = .ok r → WBox w' b s r.2 n 0 0) ∧ (∀ x, pName s i = .error x → WBad w' b s x) ∧ Away b w w' := by
  have hg := get_bt s
  have hcl := ok_any b s i n 0 0 w hb
  have hcl2 := rskip_any b s i n 0 0 w hb hi hs
  have hk := skip_le hi
  have HE := hidI (pName_rend s i)
  clear hb
  generalize skipB s i = k at *
  go_enter Try.func87, Try.ntmps87
  go_wp2_with fail
  refine hcl.mono ?_
  clear hcl
  rintro r w0 ⟨rfl, rfl⟩
  go_wp2_with fail
  refine hcl2.mono ?_
  clear hcl2
  rintro e w1 ⟨rfl, hr, hA⟩
  have c0 := hr.c0
  have c1 := hr.c1
  have Hr := hidI hr
  have HA := hidI hA
  clear hr hA
  go_wp2_with fail
  go_loop [3] (fun v => ∃ j : Nat, k ≤ j ∧ j ≤ s.size ∧ v = .int .i64 j ∧ Hid (∀ q, k ≤ q → q < j → goesOn s k q = true)) (fun v => s.size - (intOf v).toNat)
  case atStart => exact ⟨k, Nat.le_refl _, hk, rfl, fun q h1 h2 => by omega⟩
  case round =>
    obtain ⟨j, hkj, hj, rfl, HG⟩ := hrel
    by_cases hjl : j < s.size
    · have hjl' : (j : Int) < (s.size : Int) := by omega
      have hj0 : (0 : Int) ≤ (j : Int) := by omega
      have b0 := bt_nonneg s j
      have b1 := bt_le s j
      have HGB := hidI (goesOn_bt (s := s) (k := k) (j := j))
      by_cases h1 : 97 ≤ bt s j
      · by_cases h2 : bt s j ≤ 122
        · have q1 : ¬ bt s j < 97 := by omega
          have q2 : ¬ 122 < bt s j := by omega
          have HGJ : goesOn s k j = true := by rw [HGB.out, decide_eq_true h1, decide_eq_true h2]; rfl
          have HG2 : Hid (∀ q, k ≤ q → q < j + 1 → goesOn s k q = true) := fun q h1 h2 => by
            rcases Nat.lt_succ_iff_lt_or_eq.1 h2 with h | h
            · exact HG.out q h1 h
            · rw [h]; exact HGJ
          clear HGJ
          go_wp2_with fail
          go_round
          case rel => exact ⟨j + 1, by omega, by omega, by go_num, HG2⟩
          case measure => simp [intOf]; omega
        · have q1 : ¬ bt s j < 97 := by omega
          have q2 : 122 < bt s j := by omega
          have q4 : ¬ bt s j < 48 := by omega
          have q5 : 57 < bt s j := by omega
          have HJ : Hid (rend s k = j) := rend_is hkj hj HG.out (fun _ => by rw [HGB.out, decide_eq_false h2, decide_eq_false (show ¬ bt s j ≤ 57 by omega)]; simp)
          clear HGB
          cases h3 : ((j : Int) == (k : Int)) with
          | true =>
            have hjk : j = k := by have := (beq_iff_eq).1 h3; omega
            have HE2 : Hid (pName s i = if j = k then .error (2, k) else if 12 < j - k then .error (6, k) else .ok (s.extract k j, j)) := by rw [HE.out, HJ.out]; rfl
            have hsz : (s.extract k j).size = j - k := by rw [ByteArray.size_extract]; omega
            have hee := emp_eq (s.extract k j)
            have hjk1 : (k : Int) ≤ (j : Int) := by omega
            have hjk2 : (j : Int) ≤ (s.size : Int) := by omega
            have HD : Hid (∀ q, WBox (w1.drewN q) b s k n 0 0 ∧ Away b w0 (w1.drewN q)) := fun q => ⟨Hr.out.kept (below_drewN w1 q), HA.out.trans (Away.of (below_drewN w1 q))⟩
            clear HE HJ HG
            have he : emp (s.extract k j) = true := by unfold emp; rw [hsz]; simp; omega
            rw [he] at hee
            have HF : Hid (pName s i = .error (2, k)) := by rw [HE2.out, if_pos hjk]; rfl
            clear HE2 he hsz hjk
            go_wp2_with fail
            go_quiet (fail)
            generalize s.extract k j = t at *
            have hst := stop_ok b s k n 2 _ (HD.out nq).1
            go_wp2_with fail
            refine hst.mono ?_
            clear hst
            rintro e w2 ⟨rfl, hb2, hA2⟩
            have HB2 : Hid (WBad w2 b s (2, k)) := ⟨by show (2 : Int) ≠ 0; decide, k, n, hk, hb2⟩
            have HA2 : Hid (Away b w0 w2) := (HD.out nq).2.trans hA2
            clear hb2 hA2
            go_wp2_with fail
            go_ret
            exact ⟨⟨_, rfl, fun r h => (by rw [HF.out] at h; cases h)⟩, fun r h => (by rw [HF.out] at h; cases h), fun x h => (by rw [HF.out] at h; cases h; exact HB2.out), HA2.out⟩
          | false =>
            have hjk : ¬ j = k := by have := beq_eq_false_iff_ne.1 h3; omega
            have HE2 : Hid (pName s i = if j = k then .error (2, k) else if 12 < j - k then .error (6, k) else .ok (s.extract k j, j)) := by rw [HE.out, HJ.out]; rfl
            have hsz : (s.extract k j).size = j - k := by rw [ByteArray.size_extract]; omega
            have hee := emp_eq (s.extract k j)
            have hjk1 : (k : Int) ≤ (j : Int) := by omega
            have hjk2 : (j : Int) ≤ (s.size : Int) := by omega
            have HD : Hid (∀ q, WBox (w1.drewN q) b s k n 0 0 ∧ Away b w0 (w1.drewN q)) := fun q => ⟨Hr.out.kept (below_drewN w1 q), HA.out.trans (Away.of (below_drewN w1 q))⟩
            clear HE HJ HG
            have he : emp (s.extract k j) = false := by unfold emp; rw [hsz]; simp; omega
            rw [he] at hee
            rw [if_neg hjk] at HE2
            by_cases h12 : 12 < j - k
            · have HF : Hid (pName s i = .error (6, k)) := by rw [HE2.out, if_pos h12]; rfl
              have h12' : (12 : Int) < ((s.extract k j).size : Int) := by omega
              clear HE2 he hsz hjk h12
              go_wp2_with fail
              go_quiet (fail)
              generalize s.extract k j = t at *
              have hst := stop_ok b s k n 6 _ (HD.out nq).1
              go_wp2_with fail
              refine hst.mono ?_
              clear hst
              rintro e w2 ⟨rfl, hb2, hA2⟩
              have HB2 : Hid (WBad w2 b s (6, k)) := ⟨by show (6 : Int) ≠ 0; decide, k, n, hk, hb2⟩
              have HA2 : Hid (Away b w0 w2) := (HD.out nq).2.trans hA2
              clear hb2 hA2
              go_wp2_with fail
              go_ret
              exact ⟨⟨_, rfl, fun r h => (by rw [HF.out] at h; cases h)⟩, fun r h => (by rw [HF.out] at h; cases h), fun x h => (by rw [HF.out] at h; cases h; exact HB2.out), HA2.out⟩
            · have HF : Hid (pName s i = .ok (s.extract k j, j)) := by rw [HE2.out, if_neg h12]; rfl
              have h12' : ¬ (12 : Int) < ((s.extract k j).size : Int) := by omega
              clear HE2 he hsz hjk h12
              go_wp2_with fail
              go_quiet (fail)
              generalize s.extract k j = t at *
              have g1 := (HD.out nq).1.c1
              have gf := (HD.out nq).1.f1
              have HR3 : Hid (WBox ((w1.drewN nq).setCell ⟨b, 1, none⟩ (.int .i64 (j : Int))) b s j n 0 0) := (HD.out nq).1.setAt j
              have HA3 : Hid (Away b w0 ((w1.drewN nq).setCell ⟨b, 1, none⟩ (.int .i64 (j : Int)))) := (HD.out nq).2.trans (Away.set _ _ _ _)
              generalize w1.drewN nq = w2 at *
              go_wp2_with fail
              go_ret
              exact ⟨⟨_, rfl, fun r h => (by rw [HF.out] at h; cases h; rfl)⟩, fun r h => (by rw [HF.out] at h; cases h; exact HR3.out), fun x h => (by rw [HF.out] at h; cases h), HA3.out⟩
      · have q1 : bt s j < 97 := by omega
        cases h3 : ((j : Int) == (k : Int)) with
        | true =>
          have hjk : j = k := by have := (beq_iff_eq).1 h3; omega
          have HJ : Hid (rend s k = j) := rend_is hkj hj HG.out (fun _ => by rw [HGB.out, decide_eq_false h1, decide_eq_true hjk]; rfl)
          clear HGB
          have HE2 : Hid (pName s i = if j = k then .error (2, k) else if 12 < j - k then .error (6, k) else .ok (s.extract k j, j)) := by rw [HE.out, HJ.out]; rfl
          have hsz : (s.extract k j).size = j - k := by rw [ByteArray.size_extract]; omega
          have hee := emp_eq (s.extract k j)
          have hjk1 : (k : Int) ≤ (j : Int) := by omega
          have hjk2 : (j : Int) ≤ (s.size : Int) := by omega
          have HD : Hid (∀ q, WBox (w1.drewN q) b s k n 0 0 ∧ Away b w0 (w1.drewN q)) := fun q => ⟨Hr.out.kept (below_drewN w1 q), HA.out.trans (Away.of (below_drewN w1 q))⟩
          clear HE HJ HG
          have he : emp (s.extract k j) = true := by unfold emp; rw [hsz]; simp; omega
          rw [he] at hee
          have HF : Hid (pName s i = .error (2, k)) := by rw [HE2.out, if_pos hjk]; rfl
          clear HE2 he hsz hjk
          go_wp2_with fail
          go_quiet (fail)
          generalize s.extract k j = t at *
          have hst := stop_ok b s k n 2 _ (HD.out nq).1
          go_wp2_with fail
          refine hst.mono ?_
          clear hst
          rintro e w2 ⟨rfl, hb2, hA2⟩
          have HB2 : Hid (WBad w2 b s (2, k)) := ⟨by show (2 : Int) ≠ 0; decide, k, n, hk, hb2⟩
          have HA2 : Hid (Away b w0 w2) := (HD.out nq).2.trans hA2
          clear hb2 hA2
          go_wp2_with fail
          go_ret
          exact ⟨⟨_, rfl, fun r h => (by rw [HF.out] at h; cases h)⟩, fun r h => (by rw [HF.out] at h; cases h), fun x h => (by rw [HF.out] at h; cases h; exact HB2.out), HA2.out⟩
        | false =>
          have hjk : ¬ j = k := by have := beq_eq_false_iff_ne.1 h3; omega
          by_cases h4 : bt s j < 48
          · have HJ : Hid (rend s k = j) := rend_is hkj hj HG.out (fun _ => by rw [HGB.out, decide_eq_false h1, decide_eq_false (show ¬ 48 ≤ bt s j by omega)]; simp)
            clear HGB
            have HE2 : Hid (pName s i = if j = k then .error (2, k) else if 12 < j - k then .error (6, k) else .ok (s.extract k j, j)) := by rw [HE.out, HJ.out]; rfl
            have hsz : (s.extract k j).size = j - k := by rw [ByteArray.size_extract]; omega
            have hee := emp_eq (s.extract k j)
            have hjk1 : (k : Int) ≤ (j : Int) := by omega
            have hjk2 : (j : Int) ≤ (s.size : Int) := by omega
            have HD : Hid (∀ q, WBox (w1.drewN q) b s k n 0 0 ∧ Away b w0 (w1.drewN q)) := fun q => ⟨Hr.out.kept (below_drewN w1 q), HA.out.trans (Away.of (below_drewN w1 q))⟩
            clear HE HJ HG
            have he : emp (s.extract k j) = false := by unfold emp; rw [hsz]; simp; omega
            rw [he] at hee
            rw [if_neg hjk] at HE2
            by_cases h12 : 12 < j - k
            · have HF : Hid (pName s i = .error (6, k)) := by rw [HE2.out, if_pos h12]; rfl
              have h12' : (12 : Int) < ((s.extract k j).size : Int) := by omega
              clear HE2 he hsz hjk h12
              go_wp2_with fail
              go_quiet (fail)
              generalize s.extract k j = t at *
              have hst := stop_ok b s k n 6 _ (HD.out nq).1
              go_wp2_with fail
              refine hst.mono ?_
              clear hst
              rintro e w2 ⟨rfl, hb2, hA2⟩
              have HB2 : Hid (WBad w2 b s (6, k)) := ⟨by show (6 : Int) ≠ 0; decide, k, n, hk, hb2⟩
              have HA2 : Hid (Away b w0 w2) := (HD.out nq).2.trans hA2
              clear hb2 hA2
              go_wp2_with fail
              go_ret
              exact ⟨⟨_, rfl, fun r h => (by rw [HF.out] at h; cases h)⟩, fun r h => (by rw [HF.out] at h; cases h), fun x h => (by rw [HF.out] at h; cases h; exact HB2.out), HA2.out⟩
            · have HF : Hid (pName s i = .ok (s.extract k j, j)) := by rw [HE2.out, if_neg h12]; rfl
              have h12' : ¬ (12 : Int) < ((s.extract k j).size : Int) := by omega
              clear HE2 he hsz hjk h12
              go_wp2_with fail
              go_quiet (fail)
              generalize s.extract k j = t at *
              have g1 := (HD.out nq).1.c1
              have gf := (HD.out nq).1.f1
              have HR3 : Hid (WBox ((w1.drewN nq).setCell ⟨b, 1, none⟩ (.int .i64 (j : Int))) b s j n 0 0) := (HD.out nq).1.setAt j
              have HA3 : Hid (Away b w0 ((w1.drewN nq).setCell ⟨b, 1, none⟩ (.int .i64 (j : Int)))) := (HD.out nq).2.trans (Away.set _ _ _ _)
              generalize w1.drewN nq = w2 at *
              go_wp2_with fail
              go_ret
              exact ⟨⟨_, rfl, fun r h => (by rw [HF.out] at h; cases h; rfl)⟩, fun r h => (by rw [HF.out] at h; cases h; exact HR3.out), fun x h => (by rw [HF.out] at h; cases h), HA3.out⟩
          · by_cases h5 : 57 < bt s j
            · have HJ : Hid (rend s k = j) := rend_is hkj hj HG.out (fun _ => by rw [HGB.out, decide_eq_false h1, decide_eq_false (show ¬ bt s j ≤ 57 by omega)]; simp)
              clear HGB
              have HE2 : Hid (pName s i = if j = k then .error (2, k) else if 12 < j - k then .error (6, k) else .ok (s.extract k j, j)) := by rw [HE.out, HJ.out]; rfl
              have hsz : (s.extract k j).size = j - k := by rw [ByteArray.size_extract]; omega
              have hee := emp_eq (s.extract k j)
              have hjk1 : (k : Int) ≤ (j : Int) := by omega
              have hjk2 : (j : Int) ≤ (s.size : Int) := by omega
              have HD : Hid (∀ q, WBox (w1.drewN q) b s k n 0 0 ∧ Away b w0 (w1.drewN q)) := fun q => ⟨Hr.out.kept (below_drewN w1 q), HA.out.trans (Away.of (below_drewN w1 q))⟩
              clear HE HJ HG
              have he : emp (s.extract k j) = false := by unfold emp; rw [hsz]; simp; omega
              rw [he] at hee
              rw [if_neg hjk] at HE2
              by_cases h12 : 12 < j - k
              · have HF : Hid (pName s i = .error (6, k)) := by rw [HE2.out, if_pos h12]; rfl
                have h12' : (12 : Int) < ((s.extract k j).size : Int) := by omega
                clear HE2 he hsz hjk h12
                go_wp2_with fail
                go_quiet (fail)
                generalize s.extract k j = t at *
                have hst := stop_ok b s k n 6 _ (HD.out nq).1
                go_wp2_with fail
                refine hst.mono ?_
                clear hst
                rintro e w2 ⟨rfl, hb2, hA2⟩
                have HB2 : Hid (WBad w2 b s (6, k)) := ⟨by show (6 : Int) ≠ 0; decide, k, n, hk, hb2⟩
                have HA2 : Hid (Away b w0 w2) := (HD.out nq).2.trans hA2
                clear hb2 hA2
                go_wp2_with fail
                go_ret
                exact ⟨⟨_, rfl, fun r h => (by rw [HF.out] at h; cases h)⟩, fun r h => (by rw [HF.out] at h; cases h), fun x h => (by rw [HF.out] at h; cases h; exact HB2.out), HA2.out⟩
              · have HF : Hid (pName s i = .ok (s.extract k j, j)) := by rw [HE2.out, if_neg h12]; rfl
                have h12' : ¬ (12 : Int) < ((s.extract k j).size : Int) := by omega
                clear HE2 he hsz hjk h12
                go_wp2_with fail
                go_quiet (fail)
                generalize s.extract k j = t at *
                have g1 := (HD.out nq).1.c1
                have gf := (HD.out nq).1.f1
                have HR3 : Hid (WBox ((w1.drewN nq).setCell ⟨b, 1, none⟩ (.int .i64 (j : Int))) b s j n 0 0) := (HD.out nq).1.setAt j
                have HA3 : Hid (Away b w0 ((w1.drewN nq).setCell ⟨b, 1, none⟩ (.int .i64 (j : Int)))) := (HD.out nq).2.trans (Away.set _ _ _ _)
                generalize w1.drewN nq = w2 at *
                go_wp2_with fail
                go_ret
                exact ⟨⟨_, rfl, fun r h => (by rw [HF.out] at h; cases h; rfl)⟩, fun r h => (by rw [HF.out] at h; cases h; exact HR3.out), fun x h => (by rw [HF.out] at h; cases h), HA3.out⟩
            · have HGJ : goesOn s k j = true := by rw [HGB.out, decide_eq_false hjk, decide_eq_true (show 48 ≤ bt s j by omega), decide_eq_true (show bt s j ≤ 57 by omega)]; simp
              have HG2 : Hid (∀ q, k ≤ q → q < j + 1 → goesOn s k q = true) := fun q h1 h2 => by
                rcases Nat.lt_succ_iff_lt_or_eq.1 h2 with h | h
                · exact HG.out q h1 h
                · rw [h]; exact HGJ
              clear HGJ HGB hjk
              go_wp2_with fail
              go_round
              case rel => exact ⟨j + 1, by omega, by omega, by go_num, HG2⟩
              case measure => simp [intOf]; omega
    · have hjl' : ¬ (j : Int) < (s.size : Int) := by omega
      have HJ : Hid (rend s k = j) := rend_is hkj hj HG.out (fun h => absurd h hjl)
      have HE2 : Hid (pName s i = if j = k then .error (2, k) else if 12 < j - k then .error (6, k) else .ok (s.extract k j, j)) := by rw [HE.out, HJ.out]; rfl
      have hsz : (s.extract k j).size = j - k := by rw [ByteArray.size_extract]; omega
      have hee := emp_eq (s.extract k j)
      have hjk1 : (k : Int) ≤ (j : Int) := by omega
      have hjk2 : (j : Int) ≤ (s.size : Int) := by omega
      have HD : Hid (∀ q, WBox (w1.drewN q) b s k n 0 0 ∧ Away b w0 (w1.drewN q)) := fun q => ⟨Hr.out.kept (below_drewN w1 q), HA.out.trans (Away.of (below_drewN w1 q))⟩
      clear HE HJ HG
      by_cases hjk : j = k
      · have he : emp (s.extract k j) = true := by unfold emp; rw [hsz]; simp; omega
        rw [he] at hee
        have HF : Hid (pName s i = .error (2, k)) := by rw [HE2.out, if_pos hjk]; rfl
        clear HE2 he hsz hjk
        go_wp2_with fail
        go_quiet (fail)
        generalize s.extract k j = t at *
        have hst := stop_ok b s k n 2 _ (HD.out nq).1
        go_wp2_with fail
        refine hst.mono ?_
        clear hst
        rintro e w2 ⟨rfl, hb2, hA2⟩
        have HB2 : Hid (WBad w2 b s (2, k)) := ⟨by show (2 : Int) ≠ 0; decide, k, n, hk, hb2⟩
        have HA2 : Hid (Away b w0 w2) := (HD.out nq).2.trans hA2
        clear hb2 hA2
        go_wp2_with fail
        go_ret
        exact ⟨⟨_, rfl, fun r h => (by rw [HF.out] at h; cases h)⟩, fun r h => (by rw [HF.out] at h; cases h), fun x h => (by rw [HF.out] at h; cases h; exact HB2.out), HA2.out⟩
      have he : emp (s.extract k j) = false := by unfold emp; rw [hsz]; simp; omega
      rw [he] at hee
      rw [if_neg hjk] at HE2
      by_cases h12 : 12 < j - k
      · have HF : Hid (pName s i = .error (6, k)) := by rw [HE2.out, if_pos h12]; rfl
        have h12' : (12 : Int) < ((s.extract k j).size : Int) := by omega
        clear HE2 he hsz hjk h12
        go_wp2_with fail
        go_quiet (fail)
        generalize s.extract k j = t at *
        have hst := stop_ok b s k n 6 _ (HD.out nq).1
        go_wp2_with fail
        refine hst.mono ?_
        clear hst
        rintro e w2 ⟨rfl, hb2, hA2⟩
        have HB2 : Hid (WBad w2 b s (6, k)) := ⟨by show (6 : Int) ≠ 0; decide, k, n, hk, hb2⟩
        have HA2 : Hid (Away b w0 w2) := (HD.out nq).2.trans hA2
        clear hb2 hA2
        go_wp2_with fail
        go_ret
        exact ⟨⟨_, rfl, fun r h => (by rw [HF.out] at h; cases h)⟩, fun r h => (by rw [HF.out] at h; cases h), fun x h => (by rw [HF.out] at h; cases h; exact HB2.out), HA2.out⟩
      · have HF : Hid (pName s i = .ok (s.extract k j, j)) := by rw [HE2.out, if_neg h12]; rfl
        have h12' : ¬ (12 : Int) < ((s.extract k j).size : Int) := by omega
        clear HE2 he hsz hjk h12
        go_wp2_with fail
        go_quiet (fail)
        generalize s.extract k j = t at *
        have g1 := (HD.out nq).1.c1
        have gf := (HD.out nq).1.f1
        have HR3 : Hid (WBox ((w1.drewN nq).setCell ⟨b, 1, none⟩ (.int .i64 (j : Int))) b s j n 0 0) := (HD.out nq).1.setAt j
        have HA3 : Hid (Away b w0 ((w1.drewN nq).setCell ⟨b, 1, none⟩ (.int .i64 (j : Int)))) := (HD.out nq).2.trans (Away.set _ _ _ _)
        generalize w1.drewN nq = w2 at *
        go_wp2_with fail
        go_ret
        exact ⟨⟨_, rfl, fun r h => (by rw [HF.out] at h; cases h; rfl)⟩, fun r h => (by rw [HF.out] at h; cases h; exact HR3.out), fun x h => (by rw [HF.out] at h; cases h), HA3.out⟩
end Go.Proofs.Ytjjggefmmeminaa
