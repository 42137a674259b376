/-
  The contract of the reader's list.
-/
import Derived.Test.YtjjggefmmeminabQpRow
namespace Go.Proofs.Ytjjggefmmeminab
open Go.RowKit Go.Sort Go.PlainAid

theorem Try.info63 : (Try.prog.info? 63).map (fun i => (i.zero, i.size, i.bytes)) = some (some (.agg #[.string ⟨#[]⟩, .string ⟨#[]⟩, .slice none 0 0]), 3, 56) := by kernel_rfl

set_option maxRecDepth 100000 in
set_option maxHeartbeats 400000 in
theorem list_zero : ListOk 0 := by
  intro b s i n deep w hd hb hi hn hs
  have hd' : (8 : Int) < (deep : Int) := by omega
  have c1 := hb.c1
  have hth := throw_any 3 i w
  have HF : Hid (pList s 0 i n = .error (3, i)) := rfl
  clear hb
  go_enter Try.func62, Try.ntmps62
  go_wp2_with fail
  refine hth.mono ?_
  clear hth
  rintro e w2 ⟨rfl, rfl⟩
  exact ⟨rfl, fun j h => (by rw [HF.out] at h; cases h), fun x h => (by rw [HF.out] at h; cases h; rfl), Away.refl _ _⟩

set_option maxRecDepth 100000 in
set_option maxHeartbeats 2000000 in
theorem list_succ (d : Nat) (ih : ListOk d) : ListOk (d + 1) := by
  intro b s i n deep w hd hb hi hn hs
  obtain ⟨i0, hi0, hz0, hz1, hz2⟩ := info_parts' Try.info63
  have hd' : ¬ (8 : Int) < (deep : Int) := by omega
  have hbl := hb.lt
  have hcl := sign_any b s i n 123 w hb hi hs
  have HE : Hid (pList s (d + 1) i n = (match pSign s 123 i with | .error e => .error e | .ok j => pPicks s (pList s d) (s.size + 1) [] j n)) := by rw [pList]; rfl
  have HG := hidI (pList_goes s d)
  have HCT := hidI (pList_count s d)
  have HIH := hidI ih
  clear hb ih
  go_enter Try.func62, Try.ntmps62
  go_wp2_with fail
  refine hcl.mono ?_
  clear hcl
  rintro e w1 ⟨hok, herr, hA⟩
  cases hsg : pSign s 123 i with
  | error x =>
    have HF : Hid (pList s (d + 1) i n = .error x) := by rw [HE.out, hsg]; rfl
    rw [herr x hsg]
    exact ⟨rfl, fun r h => (by rw [HF.out] at h; cases h), fun y h => (by rw [HF.out] at h; cases h; rfl), hA⟩
  | ok j =>
  obtain ⟨rfl, hr1⟩ := hok j hsg
  have HP : Hid (pList s (d + 1) i n = pPicks s (pList s d) (s.size + 1) [] j n) := by rw [HE.out, hsg]; rfl
  have hj := (pSign_at hsg).2
  have HR1 := hidI hr1
  have HA1 := hidI hA
  clear hok herr hsg hr1 hA HE
  go_wp2_with fail
  go_loopw [5] (fun v wr => ∃ (acc : List (Pick (d + 1))) (av : Nat → Value) (k m : Nat), k ≤ s.size ∧ m ≤ 60 ∧ acc.length ≤ m ∧ RBox wr b s k m ∧ LRow w.heap.size d wr v acc av ∧ Hid (pList s (d + 1) i n = pPicks s (pList s d) (s.size + 1) acc k m) ∧ Away b w wr) (fun _ wr => s.size - posOf wr b)
  case atStart => exact ⟨[], fun _ => undef, j, n, hj, hn, Nat.zero_le _, HR1.out, LRow.nil _ _ _ _, HP, HA1.out⟩
  case round =>
    clear HR1 HA1 HP
    obtain ⟨acc, av, k, m, hk, hm, ham, hr, hL, HP, hA⟩ := hrel
    obtain ⟨va, vc, hv, hlc⟩ : ∃ va vc, u5 = .slice va acc.length vc ∧ acc.length ≤ vc := by
      rcases hL.row.shape with ⟨e, h0⟩ | ⟨g, cap, e, -, hc, -⟩
      · exact ⟨none, 0, by rw [e, h0], by omega⟩
      · exact ⟨_, cap, e, hc⟩
    subst hv
    have Hr := hidI hr
    have HUN : Hid (pPicks s (pList s d) (s.size + 1) acc k m = if !acc.isEmpty && isAt s (skipB s k) 125 then .ok (acc, skipB s k + 1, m) else (match pPick s (pList s d) (if acc.isEmpty then k else skipB s k) m with | .error e => .error e | .ok r => pPicks s (pList s d) s.size (acc ++ [r.1]) r.2.1 r.2.2)) := by rw [pPicks]; rfl
    by_cases h0 : acc.length = 0
    · have h0' : ((acc.length : Int) == 0) = true := by rw [beq_iff_eq]; omega
      have hem : acc.isEmpty = true := by rw [List.isEmpty_iff]; exact List.eq_nil_of_length_eq_zero h0
      have HPQ : Hid (pList s (d + 1) i n = (match pPick s (pList s d) k m with | .error e => .error e | .ok r => pPicks s (pList s d) s.size (acc ++ [r.1]) r.2.1 r.2.2)) := by rw [HP.out, HUN.out, hem]; rfl
      have HRQ := hidI hr
      have HLQ := hidI hL
      have HAQ := hidI hA
      have hkq := hk
      have hkk : k ≤ k := Nat.le_refl _
      clear hr hL hA HP HUN h0 hem
      have hcl := pick_any d HIH.out b s k m deep wr (by omega) HRQ.out hkq hm hs
      go_wp2_with fail
      refine hcl.mono ?_
      clear hcl
      rintro e w3 ⟨hok, herr, hA3⟩
      have hA3w := HAQ.out.trans hA3
      cases hpk : pPick s (pList s d) k m with
      | error x =>
        have HF : Hid (pList s (d + 1) i n = .error x) := by rw [HPQ.out, hpk]; rfl
        rw [herr x hpk]
        exact ⟨rfl, fun r h => (by rw [HF.out] at h; cases h), fun y h => (by rw [HF.out] at h; cases h; rfl), hA3w⟩
      | ok r =>
      obtain ⟨A, C, rfl, hC, hr3, hf3⟩ := hok r hpk
      obtain ⟨g1, g2, g3⟩ := (pPick_goes HG.out k m hkq hm).1 r hpk
      obtain ⟨s0, s1, -⟩ := pPick_small hpk
      have hct := pPick_count HCT.out hpk
      have HP4 : Hid (pList s (d + 1) i n = pPicks s (pList s d) (s.size + 1) (acc ++ [r.1]) r.2.1 r.2.2) := by
        rw [HPQ.out, hpk]
        exact pPicks_fuel HG.out _ _ _ _ _ g2 g3 (by omega) (by omega)
      have HLr := HLQ.out.away hA3 hbl
      have HLa := hidI (HLr.kept (below1 w3 (Obj.cells #[.string (nick r.1), .string (pfield r.1), .slice A (subs r.1).length C] 63)))
      have HFa : Hid (PicksFree (fun k => k < wr.heap.size) (w3.alloc (Obj.cells #[.string (nick r.1), .string (pfield r.1), .slice A (subs r.1).length C] 63)) d A (subs r.1)) := hf3.step (below1 _ _).size (fun k hk _ => (below1 w3 _).block k hk) (fun k _ h => h)
      have HRa := hidI (hr3.kept (below1 w3 (Obj.cells #[.string (nick r.1), .string (pfield r.1), .slice A (subs r.1).length C] 63)))
      have HAa : Hid (Away b w (w3.alloc (Obj.cells #[.string (nick r.1), .string (pfield r.1), .slice A (subs r.1).length C] 63))) := hA3w.trans (Away.of (below1 w3 _))
      have hNQ : w.heap.size ≤ wr.heap.size := HAQ.out.size
      have hNa : w.heap.size ≤ (w3.alloc (Obj.cells #[.string (nick r.1), .string (pfield r.1), .slice A (subs r.1).length C] 63)).heap.size := HAa.out.size
      have HVQ : Hid (∀ k', (Value.slice va acc.length vc).ownBlock = some k' → k' < wr.heap.size ∧ w.heap.size ≤ k') := fun k' hk' => ⟨(HLQ.out.row.lt hk').2, (HLQ.out.row.lt hk').1⟩
      have HOW := hidI HLa.out.row
      have HPOS : Hid (posOf wr b = k) := Hr.out.pos
      clear hok herr hA3 hA3w hr3 hf3 HLr HPQ hpk
      go_wp2_with (at_builtin; refine wpList_append_any _ rfl _ _ 22 rfl w.heap.size 63 i0 _ 3 56 Try.underlying22 hi0 hz0 hz1 hz2 rfl (by decide) _ acc.length _ rfl HOW.out (some ⟨w3.heap.size, 0, none⟩) 1 1 (pickL r.1 (.slice A (subs r.1).length C)) rfl rfl (alloc_news w3 #[.string (nick r.1), .string (pfield r.1), .slice A (subs r.1).length C] _) (fun h => by cases h) (by intro u hu; simp [pickL] at hu; rcases hu with rfl | rfl | rfl <;> rfl) (by unfold maxLen; omega) (by omega) hNa ?_)
      intro v' w4 hown hgr hvb
      have HL4 := hidI (HLa.out.app hC s0 s1 HFa.out hNQ (fun k' hk' => (HVQ.out k' hk').1) hown hgr (by simpa using hvb))
      have HR4 : Hid (RBox w4 b s r.2.1 r.2.2) := (hgr.block b HRa.out.lt (fun e => by have := (HVQ.out b e.symm).2; omega)).trans HRa.out
      have HA4 : Hid (Away b w w4) := ⟨hgr.os.trans HAa.out.os, hgr.tape.trans HAa.out.tape, hgr.output.trans HAa.out.output, Nat.le_trans HAa.out.size hgr.size, fun k' hk' hb' => (hgr.block k' (Nat.lt_of_lt_of_le hk' HAa.out.size) (fun e => by have := (HVQ.out k' e.symm).2; omega)).trans (HAa.out.block k' hk' hb')⟩
      have HPOS4 := hidI HR4.out.pos
      have hal : (acc ++ [r.1]).length ≤ r.2.2 := by rw [List.length_append]; show acc.length + 1 ≤ r.2.2; omega
      have HAL := hidI hal
      clear hown hgr hvb HOW HLa HFa HRa HAa HVQ hal
      go_wp2_with fail
      go_roundw
      case rel => exact ⟨acc ++ [r.1], _, r.2.1, r.2.2, g2, g3, HAL.out, HR4.out, HL4.out, HP4, HA4.out⟩
      case measure => rw [HPOS4.out, HPOS.out]; omega
    · have h0' : ((acc.length : Int) == 0) = false := by rw [beq_eq_false_iff_ne]; omega
      have hem : acc.isEmpty = false := by
        cases h : acc.isEmpty with
        | false => rfl
        | true => exact absurd (by rw [List.isEmpty_iff.1 h]; rfl) h0
      rw [hem] at HUN
      have hcl := comes_any b s k m 125 wr hr hk hs
      have hkq := skip_le hk
      have hkk := skip_ge s k
      have hss := skip_skip s k
      have HLw := hidI hL
      have HAw := hidI hA
      clear hr hL hA h0 hem
      generalize skipB s k = k2 at *
      go_wp2_with fail
      refine hcl.mono ?_
      clear hcl
      rintro e w2 ⟨rfl, hr2, hA2⟩
      have HRQ := hidI hr2
      have HLQ := hidI (HLw.out.away hA2 hbl)
      have HAQ : Hid (Away b w w2) := HAw.out.trans hA2
      clear hr2 hA2 HLw HAw
      cases hc : isAt s k2 125 with
      | true =>
        have HF : Hid (pList s (d + 1) i n = .ok (acc, k2 + 1, m)) := by rw [HP.out, HUN.out, hc]; rfl
        have HSG : Hid (pSign s 125 k2 = .ok (k2 + 1)) := by unfold pSign; rw [hss, hc]; rfl
        have hcl := sign_any b s k2 m 125 w2 HRQ.out hkq hs
        clear hc HP HUN
        go_wp2_with fail
        refine hcl.mono ?_
        clear hcl
        rintro e w3 ⟨hok, -, hA3⟩
        obtain ⟨rfl, hr3⟩ := hok _ HSG.out
        have HO := hidI ((HLQ.out.away hA3 hbl).out (by unfold maxLen; omega))
        have HR3 := hidI hr3
        have HA3 : Hid (Away b w w3) := HAQ.out.trans hA3
        clear hok hr3 hA3
        go_wp2_with fail
        go_ret
        refine ⟨fun r h => ?_, fun x h => ?_, HA3.out⟩
        · rw [HF.out] at h; cases h
          obtain ⟨a', cap', e', h1, h2⟩ := HO.out
          cases e'
          exact ⟨_, _, rfl, h1, HR3.out, h2⟩
        · rw [HF.out] at h; cases h
      | false =>
      have HPQ : Hid (pList s (d + 1) i n = (match pPick s (pList s d) k2 m with | .error e => .error e | .ok r => pPicks s (pList s d) s.size (acc ++ [r.1]) r.2.1 r.2.2)) := by rw [HP.out, HUN.out, hc]; rfl
      clear hc HP HUN hss
      have hcl := pick_any d HIH.out b s k2 m deep w2 (by omega) HRQ.out hkq hm hs
      go_wp2_with fail
      refine hcl.mono ?_
      clear hcl
      rintro e w3 ⟨hok, herr, hA3⟩
      have hA3w := HAQ.out.trans hA3
      cases hpk : pPick s (pList s d) k2 m with
      | error x =>
        have HF : Hid (pList s (d + 1) i n = .error x) := by rw [HPQ.out, hpk]; rfl
        rw [herr x hpk]
        exact ⟨rfl, fun r h => (by rw [HF.out] at h; cases h), fun y h => (by rw [HF.out] at h; cases h; rfl), hA3w⟩
      | ok r =>
      obtain ⟨A, C, rfl, hC, hr3, hf3⟩ := hok r hpk
      obtain ⟨g1, g2, g3⟩ := (pPick_goes HG.out k2 m hkq hm).1 r hpk
      obtain ⟨s0, s1, -⟩ := pPick_small hpk
      have hct := pPick_count HCT.out hpk
      have HP4 : Hid (pList s (d + 1) i n = pPicks s (pList s d) (s.size + 1) (acc ++ [r.1]) r.2.1 r.2.2) := by
        rw [HPQ.out, hpk]
        exact pPicks_fuel HG.out _ _ _ _ _ g2 g3 (by omega) (by omega)
      have HLr := HLQ.out.away hA3 hbl
      have HLa := hidI (HLr.kept (below1 w3 (Obj.cells #[.string (nick r.1), .string (pfield r.1), .slice A (subs r.1).length C] 63)))
      have HFa : Hid (PicksFree (fun k => k < w2.heap.size) (w3.alloc (Obj.cells #[.string (nick r.1), .string (pfield r.1), .slice A (subs r.1).length C] 63)) d A (subs r.1)) := hf3.step (below1 _ _).size (fun k hk _ => (below1 w3 _).block k hk) (fun k _ h => h)
      have HRa := hidI (hr3.kept (below1 w3 (Obj.cells #[.string (nick r.1), .string (pfield r.1), .slice A (subs r.1).length C] 63)))
      have HAa : Hid (Away b w (w3.alloc (Obj.cells #[.string (nick r.1), .string (pfield r.1), .slice A (subs r.1).length C] 63))) := hA3w.trans (Away.of (below1 w3 _))
      have hNQ : w.heap.size ≤ w2.heap.size := HAQ.out.size
      have hNa : w.heap.size ≤ (w3.alloc (Obj.cells #[.string (nick r.1), .string (pfield r.1), .slice A (subs r.1).length C] 63)).heap.size := HAa.out.size
      have HVQ : Hid (∀ k', (Value.slice va acc.length vc).ownBlock = some k' → k' < w2.heap.size ∧ w.heap.size ≤ k') := fun k' hk' => ⟨(HLQ.out.row.lt hk').2, (HLQ.out.row.lt hk').1⟩
      have HOW := hidI HLa.out.row
      have HPOS : Hid (posOf wr b = k) := Hr.out.pos
      clear hok herr hA3 hA3w hr3 hf3 HLr HPQ hpk
      go_wp2_with (at_builtin; refine wpList_append_any _ rfl _ _ 22 rfl w.heap.size 63 i0 _ 3 56 Try.underlying22 hi0 hz0 hz1 hz2 rfl (by decide) _ acc.length _ rfl HOW.out (some ⟨w3.heap.size, 0, none⟩) 1 1 (pickL r.1 (.slice A (subs r.1).length C)) rfl rfl (alloc_news w3 #[.string (nick r.1), .string (pfield r.1), .slice A (subs r.1).length C] _) (fun h => by cases h) (by intro u hu; simp [pickL] at hu; rcases hu with rfl | rfl | rfl <;> rfl) (by unfold maxLen; omega) (by omega) hNa ?_)
      intro v' w4 hown hgr hvb
      have HL4 := hidI (HLa.out.app hC s0 s1 HFa.out hNQ (fun k' hk' => (HVQ.out k' hk').1) hown hgr (by simpa using hvb))
      have HR4 : Hid (RBox w4 b s r.2.1 r.2.2) := (hgr.block b HRa.out.lt (fun e => by have := (HVQ.out b e.symm).2; omega)).trans HRa.out
      have HA4 : Hid (Away b w w4) := ⟨hgr.os.trans HAa.out.os, hgr.tape.trans HAa.out.tape, hgr.output.trans HAa.out.output, Nat.le_trans HAa.out.size hgr.size, fun k' hk' hb' => (hgr.block k' (Nat.lt_of_lt_of_le hk' HAa.out.size) (fun e => by have := (HVQ.out k' e.symm).2; omega)).trans (HAa.out.block k' hk' hb')⟩
      have HPOS4 := hidI HR4.out.pos
      have hal : (acc ++ [r.1]).length ≤ r.2.2 := by rw [List.length_append]; show acc.length + 1 ≤ r.2.2; omega
      have HAL := hidI hal
      clear hown hgr hvb HOW HLa HFa HRa HAa HVQ hal
      go_wp2_with fail
      go_roundw
      case rel => exact ⟨acc ++ [r.1], _, r.2.1, r.2.2, g2, g3, HAL.out, HR4.out, HL4.out, HP4, HA4.out⟩
      case measure => rw [HPOS4.out, HPOS.out]; omega

theorem list_any : ∀ d, ListOk d
  | 0 => list_zero
  | d + 1 => list_succ d (list_any d)
end Go.Proofs.Ytjjggefmmeminab
