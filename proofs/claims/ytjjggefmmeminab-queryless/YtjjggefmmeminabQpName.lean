/-
  The contract of the reader's name.
-/
import Derived.Test.YtjjggefmmeminabQpRead
import Derived.BigQuiet
namespace Go.Proofs.Ytjjggefmmeminab
open Go.RowKit Go.Sort Go.PlainAid

set_option maxRecDepth 100000 in
set_option maxHeartbeats 400000 in
theorem qletter_any (c : Int) (w : World) : Calls Try.prog 90 #[.int .u8 c] w fun e w' => e = .returned (.bool (letterB c)) ∧ Below w.heap.size w w' := by
  unfold letterB
  by_cases h1 : 97 ≤ c <;> by_cases h2 : c ≤ 122
  all_goals
    go_enter Try.func90, Try.ntmps90
    go_wp2
    go_ret
    exact ⟨by simp [h1, h2], Below.refl _ _⟩
set_option maxRecDepth 100000 in
set_option maxHeartbeats 400000 in
theorem qdigit_any (c : Int) (w : World) : Calls Try.prog 92 #[.int .u8 c] w fun e w' => e = .returned (.bool (digitB c)) ∧ Below w.heap.size w w' := by
  unfold digitB
  by_cases h1 : 48 ≤ c <;> by_cases h2 : c ≤ 57
  all_goals
    go_enter Try.func92, Try.ntmps92
    go_wp2
    go_ret
    exact ⟨by simp [h1, h2], Below.refl _ _⟩

set_option maxRecDepth 100000 in
set_option maxHeartbeats 2000000 in
theorem name_any (b : Nat) (s : ByteArray) (i n : Nat) (w : World) (hb : RBox w b s i n) (hi : i ≤ s.size) (hs : s.size ≤ 1000) :
    Calls Try.prog 60 #[.pointer (some ⟨b, 0, none⟩)] w fun e w' => (∀ r, pName s i = .ok r → e = .returned (.string r.1) ∧ RBox w' b s r.2 n) ∧ (∀ x, pName s i = .error x → e = .panicked (thrown x)) ∧ Away b w w' := by
  have hg := get_bt s
  have hcl := blanks_any b s i n w hb hi hs
  have hk := skip_le hi
  have HE : Hid (pName s i = if !(decide (skipB s i < s.size) && letterB (bt s (skipB s i))) then .error (2, skipB s i) else
    if 12 < wend s (skipB s i) - skipB s i then .error (6, skipB s i) else .ok (s.extract (skipB s i) (wend s (skipB s i)), wend s (skipB s i))) := rfl
  clear hb
  generalize skipB s i = k at *
  go_enter Try.func60, Try.ntmps60
  go_wp2_with fail
  refine hcl.mono ?_
  clear hcl
  rintro e w1 ⟨rfl, hr, hA⟩
  have c0 := hr.c0
  have c1 := hr.c1
  have Hr := hidI hr
  have HA := hidI hA
  clear hr hA
  by_cases hlt : k < s.size
  case neg =>
    have hke : ((k : Int) == (s.size : Int)) = true := by rw [beq_iff_eq]; omega
    have HF : Hid (pName s i = .error (2, k)) := by rw [HE.out, decide_eq_false hlt]; rfl
    have hth := throw_any 2 k w1
    clear HE
    go_wp2_with fail
    refine hth.mono ?_
    clear hth
    rintro e w2 ⟨rfl, rfl⟩
    exact ⟨rfl, fun j h => (by rw [HF.out] at h; cases h), fun x h => (by rw [HF.out] at h; cases h; rfl), HA.out⟩
  have hlt' : (k : Int) < (s.size : Int) := by omega
  have hk0 : (0 : Int) ≤ (k : Int) := by omega
  have hke : ((k : Int) == (s.size : Int)) = false := by rw [beq_eq_false_iff_ne]; omega
  have hL := qletter_any (bt s k) w1
  go_wp2_with fail
  refine hL.mono ?_
  clear hL
  rintro e w2 ⟨rfl, hw2⟩
  have c0 := keptCell hw2 c0
  have c1 := keptCell hw2 c1
  have Hr2 := hidI (Hr.out.kept hw2)
  have HA2 : Hid (Away b w w2) := HA.out.trans (Away.of hw2)
  clear hw2 Hr HA
  cases hl : letterB (bt s k) with
  | false =>
    have HF : Hid (pName s i = .error (2, k)) := by rw [HE.out, hl, decide_eq_true hlt]; rfl
    have hth := throw_any 2 k w2
    clear HE hl
    go_wp2_with fail
    refine hth.mono ?_
    clear hth
    rintro e w3 ⟨rfl, rfl⟩
    exact ⟨rfl, fun j h => (by rw [HF.out] at h; cases h), fun x h => (by rw [HF.out] at h; cases h; rfl), HA2.out⟩
  | true =>
  rw [hl, decide_eq_true hlt] at HE
  clear hl hke
  go_wp2_with fail
  go_loopw [] (fun wr => ∃ j : Nat, k ≤ j ∧ j ≤ s.size ∧ RBox wr b s j n ∧ Hid (wend s k = wend s j) ∧ Away b w wr) (fun wr => s.size - posOf wr b)
  case atStart => exact ⟨k, Nat.le_refl _, hk, Hr2.out, rfl, HA2.out⟩
  case round =>
    clear c0 c1
    obtain ⟨j, hkj, hj, hr, HS, hA⟩ := hrel
    have c0 := hr.c0
    have c1 := hr.c1
    have f1 := hr.f1
    have Hr := hidI hr
    have HAr := hidI hA
    clear hr hA
    have d0 := cell_regrown c0
    have d1 := cell_regrown c1
    have cL : ∀ d os, Calls Try.prog 90 #[.int .u8 (bt s j)] (grow (redrawn wr d) os) fun e w'' => e = .returned (.bool (letterB (bt s j))) ∧ ∃ p : Regrown, w'' = grow (redrawn wr p.d) p.os := fun d os => Calls.regrown_of (qletter_any _ _)
    have cD : ∀ d os, Calls Try.prog 92 #[.int .u8 (bt s j)] (grow (redrawn wr d) os) fun e w'' => e = .returned (.bool (digitB (bt s j))) ∧ ∃ p : Regrown, w'' = grow (redrawn wr p.d) p.os := fun d os => Calls.regrown_of (qdigit_any _ _)
    have HD : Hid (∀ d os, RBox (grow (redrawn wr d) os) b s j n ∧ Away b w (grow (redrawn wr d) os)) := fun d os => ⟨Hr.out.kept (below_regrown wr d os), HAr.out.trans (Away.of (below_regrown wr d os))⟩
    -- behind the loop
    by_cases hjl : j < s.size
    · have hjl' : (j : Int) < (s.size : Int) := by omega
      have hj0 : (0 : Int) ≤ (j : Int) := by omega
      have HY : Hid (wordB (bt s j) = true → wend s k = wend s (j + 1)) := fun h => by rw [HS.out]; exact span_step hjl h
      have HN : Hid (wordB (bt s j) = false → wend s k = j) := fun h => by rw [HS.out]; exact span_stop h
      have HW : Hid (wordB (bt s j) = (letterB (bt s j) || digitB (bt s j))) := rfl
      have HR2 : Hid (∀ d os, RBox ((grow (redrawn wr d) os).setCell ⟨b, 1, none⟩ (.int .i64 ((j : Int) + 1))) b s (j + 1) n ∧ Away b w ((grow (redrawn wr d) os).setCell ⟨b, 1, none⟩ (.int .i64 ((j : Int) + 1)))) := fun d os =>
        ⟨(HD.out d os).1.setAt (j + 1), (HD.out d os).2.trans (Away.set _ _ _ _)⟩
      have HGO : Hid (∀ d os, (∃ j_1, k ≤ j_1 ∧ j_1 ≤ s.size ∧ RBox ((grow (redrawn wr d) os).setCell ⟨b, 1, none⟩ (.int .i64 ((j : Int) + 1))) b s j_1 n ∧ Hid (wend s (j + 1) = wend s j_1) ∧ Away b w ((grow (redrawn wr d) os).setCell ⟨b, 1, none⟩ (.int .i64 ((j : Int) + 1)))) ∧ s.size - posOf ((grow (redrawn wr d) os).setCell ⟨b, 1, none⟩ (.int .i64 ((j : Int) + 1))) b < s.size - posOf wr b) := fun d os =>
        ⟨⟨j + 1, by omega, by omega, (HR2.out d os).1, rfl, (HR2.out d os).2⟩, by rw [(HR2.out d os).1.pos, Hr.out.pos]; omega⟩
      cases hl : letterB (bt s j) with
      | true =>
        have HS2 := hidI (HY.out (by rw [HW.out, hl]; rfl))
        rw [hl] at cL
        go_wp2_with fail
        refine wp_region_quiet_below (by kernel_rfl) (by kernel_rfl) ?_
        repeat (go_big_quiet_step (first | exact cL _ _ | exact cD _ _))
        refine wpQuiet_nil ?_
        intro _ hw'
        obtain ⟨⟨dq, osq⟩, hw''⟩ := hw'
        subst hw''
        have g1 := (HD.out dq osq).1.c1
        have g2 := (HD.out dq osq).1.f1
        have HGO' := hidI (HGO.out dq osq)
        generalize grow (redrawn wr dq) osq = w3 at *
        go_wp2_with fail
        rw [HS2.out]
        exact HGO'.out
      | false =>
        cases hd : digitB (bt s j) with
        | true =>
          have HS2 := hidI (HY.out (by rw [HW.out, hl, hd]; rfl))
          rw [hl] at cL
          rw [hd] at cD
          go_wp2_with fail
          refine wp_region_quiet_below (by kernel_rfl) (by kernel_rfl) ?_
          repeat (go_big_quiet_step (first | exact cL _ _ | exact cD _ _))
          refine wpQuiet_nil ?_
          intro _ hw'
          obtain ⟨⟨dq, osq⟩, hw''⟩ := hw'
          subst hw''
          have g1 := (HD.out dq osq).1.c1
          have g2 := (HD.out dq osq).1.f1
          have HGO' := hidI (HGO.out dq osq)
          generalize grow (redrawn wr dq) osq = w3 at *
          go_wp2_with fail
          rw [HS2.out]
          exact HGO'.out
        | false =>
          have HS2 := hidI (HN.out (by rw [HW.out, hl, hd]; rfl))
          rw [hl] at cL
          rw [hd] at cD
          go_wp2_with fail
          refine wp_region_quiet_below (by kernel_rfl) (by kernel_rfl) ?_
          repeat (go_big_quiet_step (first | exact cL _ _ | exact cD _ _))
          refine wpQuiet_nil ?_
          intro _ hw'
          obtain ⟨⟨dq, osq⟩, hw''⟩ := hw'
          subst hw''
          have HB3 := hidI (HD.out dq osq)
          clear HD HR2 HGO cL cD d0 d1 c0 c1 f1 HY HN HW
          generalize grow (redrawn wr dq) osq = w3 at *
          have g0 := HB3.out.1.c0
          have g1 := HB3.out.1.c1
          have hjk0 : (0 : Int) ≤ (j : Int) := by omega
          have hjk1 : (k : Int) ≤ (j : Int) := by omega
          have hjk2 : (j : Int) ≤ (s.size : Int) := by omega
          rw [HS2.out] at HE
          by_cases h12 : 12 < j - k
          · have h12' : (12 : Int) < (j : Int) - (k : Int) := by omega
            have HF : Hid (pName s i = .error (6, k)) := by rw [HE.out, if_neg (by decide), if_pos h12]; rfl
            have hth := throw_any 6 k w3
            clear HE h12
            go_wp2_with fail
            refine hth.mono ?_
            clear hth
            rintro e w4 ⟨rfl, rfl⟩
            exact ⟨rfl, fun j h => (by rw [HF.out] at h; cases h), fun x h => (by rw [HF.out] at h; cases h; rfl), HB3.out.2⟩
          · have h12' : ¬ (12 : Int) < (j : Int) - (k : Int) := by omega
            have HF : Hid (pName s i = .ok (s.extract k j, j)) := by rw [HE.out, if_neg (by decide), if_neg h12]; rfl
            have HQ : Hid (∀ q, RBox (w3.drewN q) b s j n ∧ Away b w (w3.drewN q)) := fun q => ⟨HB3.out.1.kept (below_drewN w3 q), HB3.out.2.trans (Away.of (below_drewN w3 q))⟩
            clear HE h12
            go_wp2_with fail
            go_quiet (fail)
            go_wp2_with fail
            go_ret
            exact ⟨fun r h => (by rw [HF.out] at h; cases h; exact ⟨rfl, (HQ.out _).1⟩), fun x h => (by rw [HF.out] at h; cases h), (HQ.out _).2⟩
    · have hjl' : ¬ (j : Int) < (s.size : Int) := by omega
      have HS2 : Hid (wend s k = j) := by rw [HS.out]; exact span_end (by omega)
      go_wp2_with fail
      refine wp_region_quiet_below (by kernel_rfl) (by kernel_rfl) ?_
      repeat (go_big_quiet_step (first | exact cL _ _ | exact cD _ _))
      refine wpQuiet_nil ?_
      intro _ hw'
      obtain ⟨⟨dq, osq⟩, hw''⟩ := hw'
      subst hw''
      have HB3 := hidI (HD.out dq osq)
      clear HD cL cD d0 d1 c0 c1 f1
      generalize grow (redrawn wr dq) osq = w3 at *
      have g0 := HB3.out.1.c0
      have g1 := HB3.out.1.c1
      have hjk0 : (0 : Int) ≤ (j : Int) := by omega
      have hjk1 : (k : Int) ≤ (j : Int) := by omega
      have hjk2 : (j : Int) ≤ (s.size : Int) := by omega
      rw [HS2.out] at HE
      by_cases h12 : 12 < j - k
      · have h12' : (12 : Int) < (j : Int) - (k : Int) := by omega
        have HF : Hid (pName s i = .error (6, k)) := by rw [HE.out, if_neg (by decide), if_pos h12]; rfl
        have hth := throw_any 6 k w3
        clear HE h12
        go_wp2_with fail
        refine hth.mono ?_
        clear hth
        rintro e w4 ⟨rfl, rfl⟩
        exact ⟨rfl, fun j h => (by rw [HF.out] at h; cases h), fun x h => (by rw [HF.out] at h; cases h; rfl), HB3.out.2⟩
      · have h12' : ¬ (12 : Int) < (j : Int) - (k : Int) := by omega
        have HF : Hid (pName s i = .ok (s.extract k j, j)) := by rw [HE.out, if_neg (by decide), if_neg h12]; rfl
        have HQ : Hid (∀ q, RBox (w3.drewN q) b s j n ∧ Away b w (w3.drewN q)) := fun q => ⟨HB3.out.1.kept (below_drewN w3 q), HB3.out.2.trans (Away.of (below_drewN w3 q))⟩
        clear HE h12
        go_wp2_with fail
        go_quiet (fail)
        go_wp2_with fail
        go_ret
        exact ⟨fun r h => (by rw [HF.out] at h; cases h; exact ⟨rfl, (HQ.out _).1⟩), fun x h => (by rw [HF.out] at h; cases h), (HQ.out _).2⟩
end Go.Proofs.Ytjjggefmmeminab
