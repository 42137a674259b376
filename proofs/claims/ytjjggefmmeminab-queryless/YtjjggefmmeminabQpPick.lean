/-
  The contract of the reader's pick, given that of its lists.
-/
import Derived.Test.YtjjggefmmeminabQpFree
namespace Go.Proofs.Ytjjggefmmeminab
open Go.RowKit Go.Sort Go.PlainAid

def PickOut (d : Nat) (b : Nat) (s : ByteArray) (w : World) (v : Except (Int × Nat) (Pick (d + 1) × Nat × Nat)) (e : Ending) (w' : World) : Prop :=
  (∀ r, v = .ok r → ∃ A C, e = .returned (.agg #[.string (nick r.1), .string (pfield r.1), .slice A (subs r.1).length C]) ∧ (subs r.1).length ≤ C ∧ RBox w' b s r.2.1 r.2.2 ∧ PicksFree (fun k => k < w.heap.size) w' d A (subs r.1)) ∧ (∀ x, v = .error x → e = .panicked (thrown x)) ∧ Away b w w'

set_option maxRecDepth 100000 in
set_option maxHeartbeats 2000000 in
theorem pick_any (d : Nat) (ih : ListOk d) (b : Nat) (s : ByteArray) (i n deep : Nat) (w : World) (hd : deep + d = 8) (hb : RBox w b s i n) (hi : i ≤ s.size) (hn : n ≤ 60) (hs : s.size ≤ 1000) :
    Calls Try.prog 94 #[.pointer (some ⟨b, 0, none⟩), .int .i64 (deep : Int)] w fun e w' => PickOut d b s w (pPick s (pList s d) i n) e w' := by
  generalize hW : w.alloc (Obj.cells #[.string ⟨#[]⟩, .string ⟨#[]⟩, .slice none 0 0] 63) = W
  have hBW : Below w.heap.size w W := by rw [← hW]; exact below1 _ _
  have pr : PBox W w.heap.size ⟨#[]⟩ ⟨#[]⟩ none 0 0 := by rw [← hW]; exact heap_alloc_new _ _
  have hbl := hb.lt
  have hcl := name_any b s i n W (hb.kept hBW) hi hs
  have HBW := hidI hBW
  have HPR := hidI pr
  clear hb hBW pr
  go_enter Try.func94, Try.ntmps94
  go_wp2_with fail
  clear hW
  refine hcl.mono ?_
  clear hcl
  rintro e w1 ⟨hok, herr, hA⟩
  have hAw := hA.from HBW.out
  cases hnm : pName s i with
  | error x =>
    have HF : Hid (pPick s (pList s d) i n = .error x) := by unfold pPick; rw [hnm]; rfl
    rw [herr x hnm]
    exact ⟨rfl, fun r h => (by rw [HF.out] at h; cases h), fun y h => (by rw [HF.out] at h; cases h; rfl), hAw⟩
  | ok r =>
  obtain ⟨rfl, hr1⟩ := hok r hnm
  obtain ⟨ha1, ha2, hr12⟩ := pName_at hnm
  have HP : Hid (pPick s (pList s d) i n = if 60 < n + 1 then .error (4, r.2) else if isAt s (skipB s r.2) 58 then (match pName s (skipB s r.2 + 1) with | .error e => .error e | .ok r' => pTail s (pList s d) r.1 r'.1 r'.2 (n + 1)) else pTail s (pList s d) ⟨#[]⟩ r.1 (skipB s r.2) (n + 1)) := by
    unfold pPick; rw [hnm]; rfl
  have HPR1 := hidI (HPR.out.away hA (by omega))
  have hsz1 := hA.size
  have hszW := HBW.out.size
  clear hok herr hnm hA HPR
  generalize hX : w1.setCell ⟨b, 2, none⟩ (.int .i64 ((n + 1 : Nat) : Int)) = X
  have hX' : w1.setCell ⟨b, 2, none⟩ (.int .i64 ((n : Int) + 1)) = X := by rw [← hX]; rfl
  have hrX : RBox X b s r.2 (n + 1) := by rw [← hX]; exact hr1.setN _
  have hsX : X.heap.size = w1.heap.size := by rw [← hX]; simp
  have HPRX : Hid (PBox X w.heap.size ⟨#[]⟩ ⟨#[]⟩ none 0 0) := by rw [← hX]; exact HPR1.out.other (by omega)
  have HAX : Hid (Away b w X) := by rw [← hX]; exact hAw.trans (Away.set _ _ _ _)
  obtain ⟨U, hU⟩ : ∃ U, U = X.alloc (Obj.cells #[.string ⟨#[]⟩, .string r.1, .slice none 0 0] 63) := ⟨_, rfl⟩
  have hBU : Below X.heap.size X U := by rw [hU]; exact below1 _ _
  have HPP : Hid (PBox U w1.heap.size ⟨#[]⟩ r.1 none 0 0) := by rw [hU, ← hsX]; exact heap_alloc_new _ _
  have HPR2 := hidI (HPRX.out.kept hBU)
  have HAU : Hid (Away b w U) := HAX.out.trans (Away.of hBU)
  have HRU := hidI (hrX.kept hBU)
  have v2 := hr1.c2
  have g2 := hr1.f2
  have u1 := hrX.c1
  have u2 := hrX.c2
  have hbX := hrX.lt
  have hb1 := hr1.lt
  have hpb : w.heap.size < w1.heap.size := HPR1.out.lt
  clear hX hBU hrX hr1 HPR1 hAw HPRX HAX
  by_cases h60 : 60 < n + 1
  · have h60' : (60 : Int) < (n : Int) + 1 := by omega
    have HF : Hid (pPick s (pList s d) i n = .error (4, r.2)) := by rw [HP.out, if_pos h60]; rfl
    have hth := throw_any 4 r.2 U
    clear HP h60
    rw [hU] at hth
    go_wp2_with fail
    refine hth.mono ?_
    clear hth
    rintro e w4 ⟨rfl, rfl⟩
    exact ⟨rfl, fun j h => (by rw [HF.out] at h; cases h), fun x h => (by rw [HF.out] at h; cases h; rfl), (by rw [← hU]; exact HAU.out)⟩
  have h60' : ¬ (60 : Int) < (n : Int) + 1 := by omega
  rw [if_neg h60] at HP
  have hcl := comes_any b s r.2 (n + 1) 58 U HRU.out ha2 hs
  rw [hU] at hcl
  go_wp2_with fail
  rw [← hU]
  rw [← hU] at hcl
  clear hX' v2 g2 u1 u2 hU
  refine hcl.mono ?_
  clear hcl
  rintro e w2 ⟨rfl, hr2, hA2⟩
  have HPP2 := hidI (HPP.out.away hA2 (by have := hr2.lt; omega))
  have HPR3 := hidI (HPR2.out.away hA2 (by omega))
  have HA2 : Hid (Away b w w2) := HAU.out.trans hA2
  have hsz2 := hA2.size
  have hk := skip_le ha2
  clear hA2 HPP HPR2 HAU HRU
  have HR2 := hidI hr2
  clear hr2
  have hss := skip_skip s r.2
  generalize skipB s r.2 = i2 at *
  cases hc2 : isAt s i2 58 with
  | false =>
    have HT : Hid (pPick s (pList s d) i n = pTail s (pList s d) ⟨#[]⟩ r.1 i2 (n + 1)) := by rw [HP.out, hc2]; rfl
    have HRY := HR2
    have hIs := hk
    have HPPY := HPP2
    have HPRY := HPR3
    have HAY := HA2
    clear HP hc2 HR2 HPP2 HPR3 HA2 hss
    have hcl := comes_any b s i2 (n + 1) 123 w2 HRY.out hIs hs
    have HTT : Hid (pPick s (pList s d) i n = if isAt s (skipB s i2) 123 then (match pList s d (skipB s i2) (n + 1) with | .error e => .error e | .ok q => .ok (mkPick ⟨#[]⟩ r.1 q.1, q.2.1, q.2.2)) else .ok (mkPick ⟨#[]⟩ r.1 [], skipB s i2, n + 1)) := HT.out
    have hk5 := skip_le hIs
    clear HT
    generalize skipB s i2 = i5 at *
    go_wp2_with fail
    refine hcl.mono ?_
    clear hcl
    rintro e w5 ⟨rfl, hr5, hA5⟩
    have HPP5 := hidI (HPPY.out.away hA5 (by have := hr5.lt; omega))
    have HPR5 := hidI (HPRY.out.away hA5 (by omega))
    have HA5 : Hid (Away b w w5) := HAY.out.trans hA5
    have HR5 := hidI hr5
    clear hA5 HPPY HPRY HAY HRY hr5
    cases hc : isAt s i5 123 with
    | false =>
      have HF : Hid (pPick s (pList s d) i n = .ok (mkPick ⟨#[]⟩ r.1 [], i5, n + 1)) := by rw [HTT.out, hc]; rfl
      have q0 := HPP5.out.c0
      have q1 := HPP5.out.c1
      have q2 := HPP5.out.c2
      have z0 := HPR5.out.c0
      have z1 := HPR5.out.c1
      have z2 := HPR5.out.c2
      have y0 := HPR5.out.f0
      have y1 := HPR5.out.f1
      have y2 := HPR5.out.f2
      have HER : Hid (RBox (((w5.setCell ⟨w.heap.size, 0, none⟩ (.string ⟨#[]⟩)).setCell ⟨w.heap.size, 1, none⟩ (.string r.1)).setCell ⟨w.heap.size, 2, none⟩ (.slice none 0 0)) b s i5 (n + 1)) := ((HR5.out.other (by omega)).other (by omega)).other (by omega)
      have HEA : Hid (Away b w (((w5.setCell ⟨w.heap.size, 0, none⟩ (.string ⟨#[]⟩)).setCell ⟨w.heap.size, 1, none⟩ (.string r.1)).setCell ⟨w.heap.size, 2, none⟩ (.slice none 0 0))) := ((HA5.out.setNew (Nat.le_refl _)).setNew (Nat.le_refl _)).setNew (Nat.le_refl _)
      clear hc HTT
      go_wp2_with fail
      exact bodyPost_ret (v := .agg #[.string ⟨#[]⟩, .string r.1, .slice none 0 0]) (by simp [results, Try.results94, go_sem, z0, z1, z2]) rfl ⟨fun r h => (by rw [HF.out] at h; cases h; exact ⟨none, 0, rfl, Nat.le_refl _, HER.out, PicksFree.none⟩), fun x h => (by rw [HF.out] at h; cases h), HEA.out⟩
    | true =>
      have hcl := ih b s i5 (n + 1) (deep + 1) w5 (by omega) HR5.out hk5 (by omega) hs
      have q2 := HPP5.out.c2
      go_wp2_with fail
      refine hcl.mono ?_
      clear hcl
      rintro e w6 ⟨hok, herr, hA6⟩
      cases hl : pList s d i5 (n + 1) with
      | error x =>
        have HF : Hid (pPick s (pList s d) i n = .error x) := by rw [HTT.out, hc, hl]; rfl
        rw [herr x hl]
        exact ⟨rfl, fun r h => (by rw [HF.out] at h; cases h), fun y h => (by rw [HF.out] at h; cases h; rfl), HA5.out.trans hA6⟩
      | ok r6 =>
        have HF : Hid (pPick s (pList s d) i n = .ok (mkPick ⟨#[]⟩ r.1 r6.1, r6.2.1, r6.2.2)) := by rw [HTT.out, hc, hl]; rfl
        obtain ⟨a6, c6, rfl, hc6, hr6, hf6⟩ := hok r6 hl
        have HPP6 := hidI (HPP5.out.away hA6 (by have := hr6.lt; omega))
        have HPR6 := hidI (HPR5.out.away hA6 (by omega))
        have hp6 := HPP6.out.f2
        have hp6c := HPP6.out.c2
        have hlt5 := HPP5.out.lt
        generalize hX6 : w6.setCell ⟨w1.heap.size, 2, none⟩ (.slice a6 r6.1.length c6) = X6
        have HPP7 : Hid (PBox X6 w1.heap.size ⟨#[]⟩ r.1 a6 r6.1.length c6) := by rw [← hX6]; exact HPP6.out.set2 _ _ _
        have HPR7 : Hid (PBox X6 w.heap.size ⟨#[]⟩ ⟨#[]⟩ none 0 0) := by rw [← hX6]; exact HPR6.out.other (by omega)
        have HR7 : Hid (RBox X6 b s r6.2.1 r6.2.2) := by rw [← hX6]; exact hr6.other (by omega)
        have HA7 : Hid (Away b w X6) := by rw [← hX6]; exact (HA5.out.trans hA6).setNew (by omega)
        have HFREE : Hid (PicksFree (fun k => k < w.heap.size) (((X6.setCell ⟨w.heap.size, 0, none⟩ (.string ⟨#[]⟩)).setCell ⟨w.heap.size, 1, none⟩ (.string r.1)).setCell ⟨w.heap.size, 2, none⟩ (.slice a6 r6.1.length c6)) d a6 r6.1) := by
          have hsw := HA5.out.size
          refine hf6.step (by rw [← hX6]; simp) (fun k hk hnk => ?_) (fun k _ hk => by show k < w5.heap.size; omega)
          have h1 : ¬ k < w5.heap.size := hnk
          rw [Below.heap_setCell _ _ _ _ (by show k ≠ w.heap.size; omega), Below.heap_setCell _ _ _ _ (by show k ≠ w.heap.size; omega), Below.heap_setCell _ _ _ _ (by show k ≠ w.heap.size; omega), ← hX6, Below.heap_setCell _ _ _ _ (by show k ≠ w1.heap.size; omega)]
        have q0 := HPP7.out.c0
        have q1 := HPP7.out.c1
        have q2 := HPP7.out.c2
        have z0 := HPR7.out.c0
        have z1 := HPR7.out.c1
        have z2 := HPR7.out.c2
        have y0 := HPR7.out.f0
        have y1 := HPR7.out.f1
        have y2 := HPR7.out.f2
        have HER : Hid (RBox (((X6.setCell ⟨w.heap.size, 0, none⟩ (.string ⟨#[]⟩)).setCell ⟨w.heap.size, 1, none⟩ (.string r.1)).setCell ⟨w.heap.size, 2, none⟩ (.slice a6 r6.1.length c6)) b s r6.2.1 r6.2.2) := ((HR7.out.other (by omega)).other (by omega)).other (by omega)
        have HEA : Hid (Away b w (((X6.setCell ⟨w.heap.size, 0, none⟩ (.string ⟨#[]⟩)).setCell ⟨w.heap.size, 1, none⟩ (.string r.1)).setCell ⟨w.heap.size, 2, none⟩ (.slice a6 r6.1.length c6))) := ((HA7.out.setNew (Nat.le_refl _)).setNew (Nat.le_refl _)).setNew (Nat.le_refl _)
        clear hc HTT hok herr hA6 hf6 hr6 hl
        go_wp2_with fail
        exact bodyPost_ret (v := .agg #[.string ⟨#[]⟩, .string r.1, .slice a6 r6.1.length c6]) (by simp [results, Try.results94, go_sem, z0, z1, z2]) rfl ⟨fun r h => (by rw [HF.out] at h; cases h; exact ⟨a6, c6, rfl, hc6, HER.out, HFREE.out⟩), fun x h => (by rw [HF.out] at h; cases h), HEA.out⟩
  | true =>
    have hcl := sign_any b s i2 (n + 1) 58 w2 HR2.out hk hs
    have HSG : Hid (pSign s 58 i2 = .ok (i2 + 1)) := by unfold pSign; rw [hss, hc2]; rfl
    have hlt2 := isAt_lt hc2
    have HP2 : Hid (pPick s (pList s d) i n = (match pName s (i2 + 1) with | .error e => .error e | .ok r' => pTail s (pList s d) r.1 r'.1 r'.2 (n + 1))) := by rw [HP.out, hc2]; rfl
    clear HP hc2 hss
    go_wp2_with fail
    refine hcl.mono ?_
    clear hcl
    rintro e w3 ⟨hok, -, hA3⟩
    obtain ⟨rfl, hr3⟩ := hok _ HSG.out
    have hpp3 := HPP2.out.away hA3 (by have := hr3.lt; omega)
    have HPR4 := hidI (HPR3.out.away hA3 (by omega))
    have hA3' := HA2.out.trans hA3
    have q1 := hpp3.c1
    have q0 := hpp3.c0
    have y0 := hpp3.f0
    generalize hX3 : w3.setCell ⟨w1.heap.size, 0, none⟩ (.string r.1) = X3
    have hp4 : PBox X3 w1.heap.size r.1 r.1 none 0 0 := by rw [← hX3]; exact hpp3.set0 _
    have hr4 : RBox X3 b s (i2 + 1) (n + 1) := by rw [← hX3]; exact hr3.other (by omega)
    have HPR5 : Hid (PBox X3 w.heap.size ⟨#[]⟩ ⟨#[]⟩ none 0 0) := by rw [← hX3]; exact HPR4.out.other (by omega)
    have HA4 : Hid (Away b w X3) := by rw [← hX3]; exact hA3'.setNew (by omega)
    have HP4 := hidI hp4
    have hcl := name_any b s (i2 + 1) (n + 1) X3 hr4 (by omega) hs
    clear hok hA3 hA3' hpp3 hp4 hr4 hr3 HPR4 HPR3 HPP2 HR2 HA2
    go_wp2_with fail
    clear hX3 q0 q1 y0
    refine hcl.mono ?_
    clear hcl
    rintro e w4 ⟨hok, herr, hA4⟩
    cases hnm : pName s (i2 + 1) with
    | error x =>
      have HF : Hid (pPick s (pList s d) i n = .error x) := by rw [HP2.out, hnm]; rfl
      rw [herr x hnm]
      exact ⟨rfl, fun r h => (by rw [HF.out] at h; cases h), fun y h => (by rw [HF.out] at h; cases h; rfl), HA4.out.trans hA4⟩
    | ok r' =>
    obtain ⟨rfl, hr4⟩ := hok r' hnm
    obtain ⟨hb1', hIs, hr12'⟩ := pName_at hnm
    have HT : Hid (pPick s (pList s d) i n = pTail s (pList s d) r.1 r'.1 r'.2 (n + 1)) := by rw [HP2.out, hnm]; rfl
    have hpp4 := HP4.out.away hA4 (by have := hr4.lt; omega)
    have hpr4 := HPR5.out.away hA4 (by omega)
    have hA4' := HA4.out.trans hA4
    have y1 := hpp4.f1
    have q1 := hpp4.c1
    generalize hX4 : w4.setCell ⟨w1.heap.size, 1, none⟩ (.string r'.1) = X4
    have HPPY : Hid (PBox X4 w1.heap.size r.1 r'.1 none 0 0) := by rw [← hX4]; exact hpp4.set1 _
    have HRY : Hid (RBox X4 b s r'.2 (n + 1)) := by rw [← hX4]; exact hr4.other (by omega)
    have HPRY : Hid (PBox X4 w.heap.size ⟨#[]⟩ ⟨#[]⟩ none 0 0) := by rw [← hX4]; exact hpr4.other (by omega)
    have HAY : Hid (Away b w X4) := by rw [← hX4]; exact hA4'.setNew (by omega)
    clear hok herr hA4 hpp4 hpr4 hA4' hr4 hnm HP2 HPR5 HA4 HP4
    have hcl := comes_any b s r'.2 (n + 1) 123 X4 HRY.out hIs hs
    have HTT : Hid (pPick s (pList s d) i n = if isAt s (skipB s r'.2) 123 then (match pList s d (skipB s r'.2) (n + 1) with | .error e => .error e | .ok q => .ok (mkPick r.1 r'.1 q.1, q.2.1, q.2.2)) else .ok (mkPick r.1 r'.1 [], skipB s r'.2, n + 1)) := HT.out
    have hk5 := skip_le hIs
    clear HT
    generalize skipB s r'.2 = i5 at *
    go_wp2_with fail
    refine hcl.mono ?_
    clear hcl
    rintro e w5 ⟨rfl, hr5, hA5⟩
    have HPP5 := hidI (HPPY.out.away hA5 (by have := hr5.lt; omega))
    have HPR5 := hidI (HPRY.out.away hA5 (by omega))
    have HA5 : Hid (Away b w w5) := HAY.out.trans hA5
    have HR5 := hidI hr5
    clear hA5 HPPY HPRY HAY HRY hr5
    cases hc : isAt s i5 123 with
    | false =>
      have HF : Hid (pPick s (pList s d) i n = .ok (mkPick r.1 r'.1 [], i5, n + 1)) := by rw [HTT.out, hc]; rfl
      have q0 := HPP5.out.c0
      have q1 := HPP5.out.c1
      have q2 := HPP5.out.c2
      have z0 := HPR5.out.c0
      have z1 := HPR5.out.c1
      have z2 := HPR5.out.c2
      have y0 := HPR5.out.f0
      have y1 := HPR5.out.f1
      have y2 := HPR5.out.f2
      have HER : Hid (RBox (((w5.setCell ⟨w.heap.size, 0, none⟩ (.string r.1)).setCell ⟨w.heap.size, 1, none⟩ (.string r'.1)).setCell ⟨w.heap.size, 2, none⟩ (.slice none 0 0)) b s i5 (n + 1)) := ((HR5.out.other (by omega)).other (by omega)).other (by omega)
      have HEA : Hid (Away b w (((w5.setCell ⟨w.heap.size, 0, none⟩ (.string r.1)).setCell ⟨w.heap.size, 1, none⟩ (.string r'.1)).setCell ⟨w.heap.size, 2, none⟩ (.slice none 0 0))) := ((HA5.out.setNew (Nat.le_refl _)).setNew (Nat.le_refl _)).setNew (Nat.le_refl _)
      clear hc HTT
      go_wp2_with fail
      exact bodyPost_ret (v := .agg #[.string r.1, .string r'.1, .slice none 0 0]) (by simp [results, Try.results94, go_sem, z0, z1, z2]) rfl ⟨fun r h => (by rw [HF.out] at h; cases h; exact ⟨none, 0, rfl, Nat.le_refl _, HER.out, PicksFree.none⟩), fun x h => (by rw [HF.out] at h; cases h), HEA.out⟩
    | true =>
      have hcl := ih b s i5 (n + 1) (deep + 1) w5 (by omega) HR5.out hk5 (by omega) hs
      have q2 := HPP5.out.c2
      go_wp2_with fail
      refine hcl.mono ?_
      clear hcl
      rintro e w6 ⟨hok, herr, hA6⟩
      cases hl : pList s d i5 (n + 1) with
      | error x =>
        have HF : Hid (pPick s (pList s d) i n = .error x) := by rw [HTT.out, hc, hl]; rfl
        rw [herr x hl]
        exact ⟨rfl, fun r h => (by rw [HF.out] at h; cases h), fun y h => (by rw [HF.out] at h; cases h; rfl), HA5.out.trans hA6⟩
      | ok r6 =>
        have HF : Hid (pPick s (pList s d) i n = .ok (mkPick r.1 r'.1 r6.1, r6.2.1, r6.2.2)) := by rw [HTT.out, hc, hl]; rfl
        obtain ⟨a6, c6, rfl, hc6, hr6, hf6⟩ := hok r6 hl
        have HPP6 := hidI (HPP5.out.away hA6 (by have := hr6.lt; omega))
        have HPR6 := hidI (HPR5.out.away hA6 (by omega))
        have hp6 := HPP6.out.f2
        have hp6c := HPP6.out.c2
        have hlt5 := HPP5.out.lt
        generalize hX6 : w6.setCell ⟨w1.heap.size, 2, none⟩ (.slice a6 r6.1.length c6) = X6
        have HPP7 : Hid (PBox X6 w1.heap.size r.1 r'.1 a6 r6.1.length c6) := by rw [← hX6]; exact HPP6.out.set2 _ _ _
        have HPR7 : Hid (PBox X6 w.heap.size ⟨#[]⟩ ⟨#[]⟩ none 0 0) := by rw [← hX6]; exact HPR6.out.other (by omega)
        have HR7 : Hid (RBox X6 b s r6.2.1 r6.2.2) := by rw [← hX6]; exact hr6.other (by omega)
        have HA7 : Hid (Away b w X6) := by rw [← hX6]; exact (HA5.out.trans hA6).setNew (by omega)
        have HFREE : Hid (PicksFree (fun k => k < w.heap.size) (((X6.setCell ⟨w.heap.size, 0, none⟩ (.string r.1)).setCell ⟨w.heap.size, 1, none⟩ (.string r'.1)).setCell ⟨w.heap.size, 2, none⟩ (.slice a6 r6.1.length c6)) d a6 r6.1) := by
          have hsw := HA5.out.size
          refine hf6.step (by rw [← hX6]; simp) (fun k hk hnk => ?_) (fun k _ hk => by show k < w5.heap.size; omega)
          have h1 : ¬ k < w5.heap.size := hnk
          rw [Below.heap_setCell _ _ _ _ (by show k ≠ w.heap.size; omega), Below.heap_setCell _ _ _ _ (by show k ≠ w.heap.size; omega), Below.heap_setCell _ _ _ _ (by show k ≠ w.heap.size; omega), ← hX6, Below.heap_setCell _ _ _ _ (by show k ≠ w1.heap.size; omega)]
        have q0 := HPP7.out.c0
        have q1 := HPP7.out.c1
        have q2 := HPP7.out.c2
        have z0 := HPR7.out.c0
        have z1 := HPR7.out.c1
        have z2 := HPR7.out.c2
        have y0 := HPR7.out.f0
        have y1 := HPR7.out.f1
        have y2 := HPR7.out.f2
        have HER : Hid (RBox (((X6.setCell ⟨w.heap.size, 0, none⟩ (.string r.1)).setCell ⟨w.heap.size, 1, none⟩ (.string r'.1)).setCell ⟨w.heap.size, 2, none⟩ (.slice a6 r6.1.length c6)) b s r6.2.1 r6.2.2) := ((HR7.out.other (by omega)).other (by omega)).other (by omega)
        have HEA : Hid (Away b w (((X6.setCell ⟨w.heap.size, 0, none⟩ (.string r.1)).setCell ⟨w.heap.size, 1, none⟩ (.string r'.1)).setCell ⟨w.heap.size, 2, none⟩ (.slice a6 r6.1.length c6))) := ((HA7.out.setNew (Nat.le_refl _)).setNew (Nat.le_refl _)).setNew (Nat.le_refl _)
        clear hc HTT hok herr hA6 hf6 hr6 hl
        go_wp2_with fail
        exact bodyPost_ret (v := .agg #[.string r.1, .string r'.1, .slice a6 r6.1.length c6]) (by simp [results, Try.results94, go_sem, z0, z1, z2]) rfl ⟨fun r h => (by rw [HF.out] at h; cases h; exact ⟨a6, c6, rfl, hc6, HER.out, HFREE.out⟩), fun x h => (by rw [HF.out] at h; cases h), HEA.out⟩
end Go.Proofs.Ytjjggefmmeminab
