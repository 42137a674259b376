/-
  The contract of stitchref4.Walk's List.
-/
import Derived.Test.YtjjggefmmeminaaRpName
import Derived.Test.YtjjggefmmeminaaQpList
namespace Go.Proofs.Ytjjggefmmeminaa
open Go.RowKit Go.Sort Go.PlainAid

theorem own_slice {w : World} {base e size n : Nat} {v : Value} {xs : List Value} (h : w.ownsRow base e size v n xs) : ∃ a c, v = .slice a n c := by
  rcases h.2 with ⟨rfl, rfl⟩ | ⟨g, cap, cur, rfl, -⟩
  · exact ⟨_, _, rfl⟩
  · exact ⟨_, _, rfl⟩
def errOf (w : World) (b : Nat) : Int := match w.cell? ⟨b, 3, none⟩ with | some v => intOf v | none => 0
def meas (w : World) (b : Nat) (s : ByteArray) : Nat := if errOf w b = 0 then s.size - posOf w b + 1 else 0
theorem WBox.meas {w : World} {b : Nat} {s : ByteArray} {i n : Nat} (h : WBox w b s i n 0 0) : meas w b s = s.size - i + 1 := by
  have he : errOf w b = 0 := by unfold errOf; rw [h.c3]; rfl
  unfold Go.Proofs.Ytjjggefmmeminaa.meas; rw [if_pos he, h.pos]
theorem WBad.meas {w : World} {b : Nat} {s : ByteArray} {x : Int × Nat} (h : WBad w b s x) : meas w b s = 0 := by
  obtain ⟨h0, i, n, -, hb⟩ := h
  have he : errOf w b = x.1 := by unfold errOf; rw [hb.c3]; rfl
  unfold Go.Proofs.Ytjjggefmmeminaa.meas; rw [if_neg (by rw [he]; exact h0)]
theorem ok_bad (b : Nat) (s : ByteArray) (x : Int × Nat) (w : World) (hb : WBad w b s x) : Calls Try.prog 89 #[.pointer (some ⟨b, 0, none⟩)] w fun r w' => r = .returned (.bool false) ∧ w' = w := by
  obtain ⟨h0, i, n, -, hb⟩ := hb
  have h := ok_any b s i n x.1 x.2 w hb
  rwa [show (x.1 == 0) = false by simpa using h0] at h

def RListOk (d : Nat) : Prop := ∀ (b : Nat) (s : ByteArray) (i n deep : Nat) (w : World), deep + d = 9 → WBox w b s i n 0 0 → i ≤ s.size → n ≤ 60 → s.size ≤ 1000 →
    Calls Try.prog 90 #[.pointer (some ⟨b, 0, none⟩), .int .i64 (deep : Int)] w fun e w' =>
      (∃ (a : Option Addr) (l c : Nat), e = .returned (.slice a l c) ∧ ∀ r, pList s d i n = .ok r → l = r.1.length ∧ r.1.length ≤ c ∧ WBox w' b s r.2.1 r.2.2 0 0 ∧ PicksFree (fun k => k < w.heap.size) w' d a r.1) ∧ (∀ x, pList s d i n = .error x → WBad w' b s x) ∧ Away b w w'

set_option maxRecDepth 100000 in
set_option maxHeartbeats 1000000 in
theorem rlist_zero : RListOk 0 := by
  intro b s i n deep w hd hb hi hn hs
  have hd' : (8 : Int) < (deep : Int) := by omega
  have hst := stop_ok b s i n 3 w hb
  have HF : Hid (pList s 0 i n = .error (3, i)) := rfl
  clear hb
  go_enter Try.func90, Try.ntmps90
  go_wp2_with fail
  refine hst.mono ?_
  clear hst
  rintro e w2 ⟨rfl, hb2, hA2⟩
  have HB2 : Hid (WBad w2 b s (3, i)) := ⟨by show (3 : Int) ≠ 0; decide, i, n, hi, hb2⟩
  have HA2 := hidI hA2
  clear hb2 hA2
  have hnd := need_bad b s _ 123 w2 HB2.out
  go_wp2_with fail
  refine hnd.mono ?_
  clear hnd
  rintro e w3 ⟨rfl, hw3⟩
  rw [hw3]
  clear hw3
  go_wp2_with fail
  go_loopw [5] (fun v wr => (∃ (a : Option Addr) (l c : Nat), v = .slice a l c) ∧ WBad wr b s (3, i) ∧ Away b w wr) (fun _ _ => 0)
  case atStart => exact ⟨⟨_, _, _, rfl⟩, HB2.out, HA2.out⟩
  case round =>
    obtain ⟨⟨a, l, c, rfl⟩, hB, hA⟩ := hrel
    have hok := ok_bad b s _ wr hB
    have HB := hidI hB
    have HA := hidI hA
    clear hB hA
    go_wp2_with fail
    refine hok.mono ?_
    clear hok
    rintro e w3 ⟨rfl, hw3⟩
    rw [hw3]
    clear hw3
    go_wp2_with fail
    go_ret
    exact ⟨⟨a, l, c, rfl, fun r h => (by rw [HF.out] at h; cases h)⟩, fun x h => (by rw [HF.out] at h; cases h; exact HB.out), HA.out⟩

set_option maxRecDepth 100000 in
set_option maxHeartbeats 4000000 in
theorem rlist_succ (d : Nat) (ih : RListOk d) : RListOk (d + 1) := by
  intro b s i n deep w hd hb hi hn hs
  obtain ⟨i0, hi0, hz0, hz1, hz2⟩ := info_parts' Try.info95
  have hd' : ¬ (8 : Int) < (deep : Int) := by omega
  have hbl := hb.lt
  have hcl := need_ok b s i n 123 w hb hi hs
  have HE : Hid (pList s (d + 1) i n = (match pSign s 123 i with | .error e => .error e | .ok j => pPicks s (pList s d) (s.size + 1) [] j n)) := by rw [pList]; rfl
  have HG := hidI (pList_goes s d)
  have HCT := hidI (pList_count s d)
  have HIH := hidI ih
  clear hb ih
  go_enter Try.func90, Try.ntmps90
  go_wp2_with fail
  refine hcl.mono ?_
  clear hcl
  rintro e w1 ⟨rfl, hok, herr, hA⟩
  have HST : Hid ((∃ (acc : List (Pick (d + 1))) (av : Nat → Value) (k m : Nat), k ≤ s.size ∧ m ≤ 60 ∧ acc.length ≤ m ∧ WBox w1 b s k m 0 0 ∧ LRow w.heap.size d w1 (.slice none 0 0) acc av ∧ Hid (pList s (d + 1) i n = pPicks s (pList s d) (s.size + 1) acc k m) ∧ Away b w w1) ∨ (∃ (x : Int × Nat) (a : Option Addr) (l c : Nat), Value.slice none 0 0 = .slice a l c ∧ WBad w1 b s x ∧ Hid (pList s (d + 1) i n = .error x) ∧ Away b w w1)) := by
    cases hsg : pSign s 123 i with
    | error x => exact .inr ⟨x, _, _, _, rfl, herr x hsg, (by show pList s (d + 1) i n = .error x; rw [HE.out, hsg]), hA⟩
    | ok j => exact .inl ⟨[], fun _ => undef, j, n, (pSign_at hsg).2, hn, Nat.zero_le _, hok j hsg, LRow.nil _ _ _ _, (by show pList s (d + 1) i n = _; rw [HE.out, hsg]), hA⟩
  clear hok herr hA HE
  go_wp2_with fail
  go_loopw [5] (fun v wr => (∃ (acc : List (Pick (d + 1))) (av : Nat → Value) (k m : Nat), k ≤ s.size ∧ m ≤ 60 ∧ acc.length ≤ m ∧ WBox wr b s k m 0 0 ∧ LRow w.heap.size d wr v acc av ∧ Hid (pList s (d + 1) i n = pPicks s (pList s d) (s.size + 1) acc k m) ∧ Away b w wr) ∨ (∃ (x : Int × Nat) (a : Option Addr) (l c : Nat), v = .slice a l c ∧ WBad wr b s x ∧ Hid (pList s (d + 1) i n = .error x) ∧ Away b w wr)) (fun _ wr => meas wr b s)
  case atStart => exact HST.out
  case round =>
    clear HST
    rcases hrel with ⟨acc, av, k, m, hk, hm, ham, hr, hL, HP, hA⟩ | ⟨x, a, l, c, hv, hB, HF, hA⟩
    rotate_left
    · subst hv
      have hok := ok_bad b s _ wr hB
      have HB := hidI hB
      have HA := hidI hA
      clear hB hA
      go_wp2_with fail
      refine hok.mono ?_
      clear hok
      rintro e w3 ⟨rfl, hw3⟩
      rw [hw3]
      clear hw3
      go_wp2_with fail
      go_ret
      exact ⟨⟨a, l, c, rfl, fun r h => (by rw [HF.out] at h; cases h)⟩, fun x h => (by rw [HF.out] at h; cases h; exact HB.out), HA.out⟩
    obtain ⟨va, vc, hv, hlc⟩ : ∃ va vc, u5 = .slice va acc.length vc ∧ acc.length ≤ vc := by
      rcases hL.row.shape with ⟨e, h0⟩ | ⟨g, cap, e, -, hc, -⟩
      · exact ⟨none, 0, by rw [e, h0], by omega⟩
      · exact ⟨_, cap, e, hc⟩
    subst hv
    have HME := hidI hr.meas
    have HUN : Hid (pPicks s (pList s d) (s.size + 1) acc k m = if !acc.isEmpty && isAt s (skipB s k) 125 then .ok (acc, skipB s k + 1, m) else (match pPick s (pList s d) (if acc.isEmpty then k else skipB s k) m with | .error e => .error e | .ok r => pPicks s (pList s d) s.size (acc ++ [r.1]) r.2.1 r.2.2)) := by rw [pPicks]; rfl
    have hok := ok_any b s k m 0 0 wr hr
    have Hr := hidI hr
    have HL := hidI hL
    have HA := hidI hA
    clear hr hL hA
    go_wp2_with fail
    refine hok.mono ?_
    clear hok
    rintro e w3 ⟨rfl, hw3⟩
    rw [hw3]
    clear hw3
    by_cases h0 : acc.length = 0
    · have h0' : ¬ (0 : Int) < (acc.length : Int) := by omega
      have hem : acc.isEmpty = true := by rw [List.isEmpty_iff]; exact List.eq_nil_of_length_eq_zero h0
      have HPQ : Hid (pList s (d + 1) i n = (match pPick s (pList s d) k m with | .error e => .error e | .ok r => pPicks s (pList s d) s.size (acc ++ [r.1]) r.2.1 r.2.2)) := by rw [HP.out, HUN.out, hem]; rfl
      have HRQ := Hr
      have HLQ := HL
      have HAQ := HA
      have hkq := hk
      have hkk : k ≤ k := Nat.le_refl _
      clear Hr HL HA HP HUN h0 hem
      have hcl := rname_ok b s k m wr HRQ.out hkq hs
      go_wp2_with fail
      refine hcl.mono ?_
      clear hcl
      rintro e w1 ⟨⟨t, rfl, ht⟩, hok, herr, hA1⟩
      have HL1 := hidI (HLQ.out.away hA1 hbl)
      have HA1 : Hid (Away b w w1) := HAQ.out.trans hA1
      have hw1 : w.heap.size ≤ w1.heap.size := HA1.out.size
      have HVQ : Hid (∀ k', (Value.slice va acc.length vc).ownBlock = some k' → k' < w1.heap.size ∧ w.heap.size ≤ k') := fun k' hk' => ⟨(HL1.out.row.lt hk').2, (HL1.out.row.lt hk').1⟩
      obtain ⟨U, hU⟩ : ∃ U, U = w1.alloc (Obj.cells #[.string ⟨#[]⟩, .string t, .slice none 0 0] 95) := ⟨_, rfl⟩
      have hBU : Below w1.heap.size w1 U := by rw [hU]; exact below1 _ _
      have HPU : Hid (PBox U w1.heap.size ⟨#[]⟩ t none 0 0) := by rw [hU]; exact heap_alloc_new _ _
      have HAU : Hid (Away b w1 U) := Away.of hBU
      clear hA1 HLQ HAQ
      cases hnm : pName s k with
      | error x =>
        have HF : Hid (pList s (d + 1) i n = .error x) := by rw [HPQ.out]; unfold pPick; rw [hnm]; rfl
        have HBZ := hidI ((herr x hnm).kept hBU)
        have HPZ := HPU
        have HAZ := HAU
        have hcl := ok_bad b s x U HBZ.out
        clear hok herr ht hnm hBU HPU HAU HPQ
        rw [hU] at hcl
        go_wp2_with fail
        rw [← hU]
        rw [← hU] at hcl
        clear hU
        refine hcl.mono ?_
        clear hcl
        rintro e w4 ⟨rfl, hw4⟩
        rw [hw4]
        clear hw4
        have hon := on_bad b s _ 58 U HBZ.out
        go_wp2_with fail
        refine hon.mono ?_
        clear hon
        rintro e wo ⟨rfl, hwo⟩
        rw [hwo]
        clear hwo
        have hon := on_bad b s _ 123 U HBZ.out
        go_wp2_with fail
        refine hon.mono ?_
        clear hon
        rintro e wo ⟨rfl, hwo⟩
        rw [hwo]
        clear hwo
        have q0 := HPZ.out.c0
        have q1 := HPZ.out.c1
        have q2 := HPZ.out.c2
        have HAw := HA1.out.trans HAZ.out
        have HLa := hidI ((HL1.out.away HAZ.out hbl).kept (below1 U (Obj.cells #[.string ⟨#[]⟩, .string t, .slice none 0 0] 95)))
        have HBa := hidI (HBZ.out.kept (below1 U (Obj.cells #[.string ⟨#[]⟩, .string t, .slice none 0 0] 95)))
        have HAa : Hid (Away b w (U.alloc (Obj.cells #[.string ⟨#[]⟩, .string t, .slice none 0 0] 95))) := HAw.trans (Away.of (below1 U _))
        have hNa : w.heap.size ≤ (U.alloc (Obj.cells #[.string ⟨#[]⟩, .string t, .slice none 0 0] 95)).heap.size := HAa.out.size
        have HOW := hidI HLa.out.row
        clear HAw HLa HPZ HAZ HL1 HA1
        go_wp2_with (at_builtin; refine wpList_append_any _ rfl _ _ 85 rfl w.heap.size 95 i0 _ 3 56 Try.underlying85 hi0 hz0 hz1 hz2 rfl (by decide) _ acc.length _ rfl HOW.out (some ⟨U.heap.size, 0, none⟩) 1 1 [.string ⟨#[]⟩, .string t, .slice none 0 0] rfl rfl (alloc_news U #[.string ⟨#[]⟩, .string t, .slice none 0 0] _) (fun h => by cases h) (by intro u hu; simp at hu; rcases hu with rfl | rfl | rfl <;> rfl) (by unfold maxLen; omega) (by omega) hNa ?_)
        intro v' w9 hown hgr hvb
        obtain ⟨va', vc', hvv⟩ := own_slice hown
        subst hvv
        have HB9 : Hid (WBad w9 b s _) := (let ⟨h0, i', n', hi', hb'⟩ := HBa.out; ⟨h0, i', n', hi', (hgr.block b hb'.lt (fun e => by have := (HVQ.out b e.symm).2; omega)).trans hb'⟩)
        have HA9 : Hid (Away b w w9) := ⟨hgr.os.trans HAa.out.os, hgr.tape.trans HAa.out.tape, hgr.output.trans HAa.out.output, Nat.le_trans HAa.out.size hgr.size, fun k' hk' hb' => (hgr.block k' (Nat.lt_of_lt_of_le hk' HAa.out.size) (fun e => by have := (HVQ.out k' e.symm).2; omega)).trans (HAa.out.block k' hk' hb')⟩
        clear hown hgr hvb HOW HBa HAa HVQ HBZ
        go_wp2_with fail
        go_roundw
        case rel => exact .inr ⟨_, _, _, _, rfl, HB9.out, HF, HA9.out⟩
        case measure => rw [HB9.out.meas, HME.out]; omega
      | ok r =>
      have ht' := ht r hnm
      subst ht'
      obtain ⟨ha1, ha2, hr12⟩ := pName_at hnm
      have HPP : Hid (pPick s (pList s d) k m = if 60 < m + 1 then .error (4, r.2) else if isAt s (skipB s r.2) 58 then (match pName s (skipB s r.2 + 1) with | .error e => .error e | .ok r' => pTail s (pList s d) r.1 r'.1 r'.2 (m + 1)) else pTail s (pList s d) ⟨#[]⟩ r.1 (skipB s r.2) (m + 1)) := by
        unfold pPick; rw [hnm]; rfl
      have hrU := (hok r hnm).kept hBU
      have hcl := ok_any b s r.2 m 0 0 U hrU
      clear hok herr ht hnm hBU
      rw [hU] at hcl
      go_wp2_with fail
      rw [← hU]
      rw [← hU] at hcl
      clear hU
      refine hcl.mono ?_
      clear hcl
      rintro e w4 ⟨rfl, hw4⟩
      rw [hw4]
      clear hw4
      have c2 := hrU.c2
      have f2 := hrU.free 2
      generalize hX : U.setCell ⟨b, 2, none⟩ (.int .i64 ((m : Int) + 1)) = X
      have hrX : WBox X b s r.2 (m + 1) 0 0 := by rw [← hX]; exact hrU.setN (m + 1)
      have HPX : Hid (PBox X w1.heap.size ⟨#[]⟩ r.1 none 0 0) := by rw [← hX]; exact HPU.out.other (by omega)
      have HAX : Hid (Away b w1 X) := by rw [← hX]; exact HAU.out.trans (Away.set _ _ _ _)
      have x2 : X.cell? ⟨b, 2, none⟩ = some (.int .i64 ((m : Int) + 1)) := hrX.c2
      clear hrU HPU HAU
      by_cases h60 : 60 < m + 1
      · have h60' : (60 : Int) < (m : Int) + 1 := by omega
        have HF : Hid (pList s (d + 1) i n = .error (4, r.2)) := by rw [HPQ.out, HPP.out, if_pos h60]; rfl
        have hst := stop_ok b s r.2 (m + 1) 4 X hrX
        clear HPP HPQ h60 hrX
        go_wp2_with fail
        clear hX x2 c2 f2
        refine hst.mono ?_
        clear hst
        rintro e w4 ⟨rfl, hb4, hA4⟩
        have HBZ : Hid (WBad w4 b s (4, r.2)) := ⟨by show (4 : Int) ≠ 0; decide, r.2, m + 1, ha2, hb4⟩
        have HPZ := hidI (HPX.out.away hA4 (by omega))
        have HAZ : Hid (Away b w1 w4) := HAX.out.trans hA4
        clear hb4 hA4 HPX HAX
        have hon := on_bad b s _ 58 w4 HBZ.out
        go_wp2_with fail
        refine hon.mono ?_
        clear hon
        rintro e wo ⟨rfl, hwo⟩
        rw [hwo]
        clear hwo
        have hon := on_bad b s _ 123 w4 HBZ.out
        go_wp2_with fail
        refine hon.mono ?_
        clear hon
        rintro e wo ⟨rfl, hwo⟩
        rw [hwo]
        clear hwo
        have q0 := HPZ.out.c0
        have q1 := HPZ.out.c1
        have q2 := HPZ.out.c2
        have HAw := HA1.out.trans HAZ.out
        have HLa := hidI ((HL1.out.away HAZ.out hbl).kept (below1 w4 (Obj.cells #[.string ⟨#[]⟩, .string r.1, .slice none 0 0] 95)))
        have HBa := hidI (HBZ.out.kept (below1 w4 (Obj.cells #[.string ⟨#[]⟩, .string r.1, .slice none 0 0] 95)))
        have HAa : Hid (Away b w (w4.alloc (Obj.cells #[.string ⟨#[]⟩, .string r.1, .slice none 0 0] 95))) := HAw.trans (Away.of (below1 w4 _))
        have hNa : w.heap.size ≤ (w4.alloc (Obj.cells #[.string ⟨#[]⟩, .string r.1, .slice none 0 0] 95)).heap.size := HAa.out.size
        have HOW := hidI HLa.out.row
        clear HAw HLa HPZ HAZ HL1 HA1
        go_wp2_with (at_builtin; refine wpList_append_any _ rfl _ _ 85 rfl w.heap.size 95 i0 _ 3 56 Try.underlying85 hi0 hz0 hz1 hz2 rfl (by decide) _ acc.length _ rfl HOW.out (some ⟨w4.heap.size, 0, none⟩) 1 1 [.string ⟨#[]⟩, .string r.1, .slice none 0 0] rfl rfl (alloc_news w4 #[.string ⟨#[]⟩, .string r.1, .slice none 0 0] _) (fun h => by cases h) (by intro u hu; simp at hu; rcases hu with rfl | rfl | rfl <;> rfl) (by unfold maxLen; omega) (by omega) hNa ?_)
        intro v' w9 hown hgr hvb
        obtain ⟨va', vc', hvv⟩ := own_slice hown
        subst hvv
        have HB9 : Hid (WBad w9 b s _) := (let ⟨h0, i', n', hi', hb'⟩ := HBa.out; ⟨h0, i', n', hi', (hgr.block b hb'.lt (fun e => by have := (HVQ.out b e.symm).2; omega)).trans hb'⟩)
        have HA9 : Hid (Away b w w9) := ⟨hgr.os.trans HAa.out.os, hgr.tape.trans HAa.out.tape, hgr.output.trans HAa.out.output, Nat.le_trans HAa.out.size hgr.size, fun k' hk' hb' => (hgr.block k' (Nat.lt_of_lt_of_le hk' HAa.out.size) (fun e => by have := (HVQ.out k' e.symm).2; omega)).trans (HAa.out.block k' hk' hb')⟩
        clear hown hgr hvb HOW HBa HAa HVQ HBZ
        go_wp2_with fail
        go_roundw
        case rel => exact .inr ⟨_, _, _, _, rfl, HB9.out, HF, HA9.out⟩
        case measure => rw [HB9.out.meas, HME.out]; omega
      have h60' : ¬ (60 : Int) < (m : Int) + 1 := by omega
      rw [if_neg h60] at HPP
      have hcl := on_ok b s r.2 (m + 1) 58 X hrX ha2 hs
      have hk2 := skip_le ha2
      clear hrX
      generalize skipB s r.2 = i2 at *
      go_wp2_with fail
      clear hX x2 c2 f2
      refine hcl.mono ?_
      clear hcl
      rintro e w2 ⟨rfl, hr2, hA2⟩
      have HP2 := hidI (HPX.out.away hA2 (by omega))
      have HA2 : Hid (Away b w1 w2) := HAX.out.trans hA2
      clear hA2 HPX HAX
      cases hc2 : isAt s i2 58 with
      | false =>
        have HT : Hid (pPick s (pList s d) k m = pTail s (pList s d) ⟨#[]⟩ r.1 i2 (m + 1)) := by rw [HPP.out, hc2]; rfl
        have HRY := hidI hr2
        have hIs := hk2
        have HPY := HP2
        have HAY := HA2
        clear hc2 HPP hr2 HP2 HA2
        have hcl := on_ok b s i2 (m + 1) 123 w2 HRY.out hIs hs
        have HTT : Hid (pPick s (pList s d) k m = if isAt s (skipB s i2) 123 then (match pList s d (skipB s i2) (m + 1) with | .error e => .error e | .ok q => .ok (mkPick ⟨#[]⟩ r.1 q.1, q.2.1, q.2.2)) else .ok (mkPick ⟨#[]⟩ r.1 [], skipB s i2, m + 1)) := HT.out
        have hk5 := skip_le hIs
        clear HT
        generalize skipB s i2 = i5 at *
        go_wp2_with fail
        refine hcl.mono ?_
        clear hcl
        rintro e w6 ⟨rfl, hr6, hA6⟩
        have hp6 := HPY.out.away hA6 (by omega)
        have HA6 : Hid (Away b w1 w6) := HAY.out.trans hA6
        clear hA6 HPY HAY HRY
        cases hc : isAt s i5 123 with
        | false =>
          obtain ⟨rp, hrp⟩ : ∃ rp : Pick (d + 1) × Nat × Nat, rp = (mkPick ⟨#[]⟩ r.1 [], i5, m + 1) := ⟨_, rfl⟩
          have HPK : Hid (pPick s (pList s d) k m = .ok rp) := by rw [HTT.out, hc, hrp]; rfl
          have HPZ : Hid (PBox w6 w1.heap.size (nick rp.1) (pfield rp.1) none (subs rp.1).length 0) := by rw [hrp]; exact hp6
          have HRZ : Hid (WBox w6 b s rp.2.1 rp.2.2 0 0) := by rw [hrp]; exact hr6
          have HFZ : Hid (PicksFree (fun k => k < w1.heap.size) w6 d none (subs rp.1)) := by rw [hrp]; exact PicksFree.none
          have hC : (subs rp.1).length ≤ 0 := by rw [hrp]; exact Nat.le_refl _
          have HAZ := HA6
          clear hc HTT hrp hp6 hr6 HA6
          obtain ⟨g1, g2, g3⟩ := (pPick_goes HG.out k m hkq hm).1 rp HPK.out
          obtain ⟨s0, s1, -⟩ := pPick_small HPK.out
          have hct := pPick_count HCT.out HPK.out
          have HP4 : Hid (pList s (d + 1) i n = pPicks s (pList s d) (s.size + 1) (acc ++ [rp.1]) rp.2.1 rp.2.2) := by
            rw [HPQ.out, HPK.out]
            exact pPicks_fuel HG.out _ _ _ _ _ g2 g3 (by omega) (by omega)
          have q0 := HPZ.out.c0
          have q1 := HPZ.out.c1
          have q2' := HPZ.out.c2
          have HLa := hidI ((HL1.out.away HAZ.out hbl).kept (below1 w6 (Obj.cells #[.string (nick rp.1), .string (pfield rp.1), .slice none (subs rp.1).length 0] 95)))
          have HFa : Hid (PicksFree (fun k => k < w1.heap.size) (w6.alloc (Obj.cells #[.string (nick rp.1), .string (pfield rp.1), .slice none (subs rp.1).length 0] 95)) d none (subs rp.1)) := HFZ.out.step (below1 _ _).size (fun k hk _ => (below1 w6 _).block k hk) (fun k _ h => h)
          have HRa := hidI (HRZ.out.kept (below1 w6 (Obj.cells #[.string (nick rp.1), .string (pfield rp.1), .slice none (subs rp.1).length 0] 95)))
          have HAa : Hid (Away b w (w6.alloc (Obj.cells #[.string (nick rp.1), .string (pfield rp.1), .slice none (subs rp.1).length 0] 95))) := (HA1.out.trans HAZ.out).trans (Away.of (below1 w6 _))
          have hNa : w.heap.size ≤ (w6.alloc (Obj.cells #[.string (nick rp.1), .string (pfield rp.1), .slice none (subs rp.1).length 0] 95)).heap.size := HAa.out.size
          have HOW := hidI HLa.out.row
          clear HPQ HPK HPZ HRZ HFZ HAZ HL1 HA1
          go_wp2_with (at_builtin; refine wpList_append_any _ rfl _ _ 85 rfl w.heap.size 95 i0 _ 3 56 Try.underlying85 hi0 hz0 hz1 hz2 rfl (by decide) _ acc.length _ rfl HOW.out (some ⟨w6.heap.size, 0, none⟩) 1 1 (pickL rp.1 (.slice none (subs rp.1).length 0)) rfl rfl (alloc_news w6 #[.string (nick rp.1), .string (pfield rp.1), .slice none (subs rp.1).length 0] _) (fun h => by cases h) (by intro u hu; simp [pickL] at hu; rcases hu with rfl | rfl | rfl <;> rfl) (by unfold maxLen; omega) (by omega) hNa ?_)
          intro v' w9 hown hgr hvb
          have HL9 := hidI (HLa.out.app hC s0 s1 HFa.out hw1 (fun k' hk' => (HVQ.out k' hk').1) hown hgr (by simpa using hvb))
          have HR9 : Hid (WBox w9 b s rp.2.1 rp.2.2 0 0) := (hgr.block b HRa.out.lt (fun e => by have := (HVQ.out b e.symm).2; omega)).trans HRa.out
          have HA9 : Hid (Away b w w9) := ⟨hgr.os.trans HAa.out.os, hgr.tape.trans HAa.out.tape, hgr.output.trans HAa.out.output, Nat.le_trans HAa.out.size hgr.size, fun k' hk' hb' => (hgr.block k' (Nat.lt_of_lt_of_le hk' HAa.out.size) (fun e => by have := (HVQ.out k' e.symm).2; omega)).trans (HAa.out.block k' hk' hb')⟩
          have hal : (acc ++ [rp.1]).length ≤ rp.2.2 := by rw [List.length_append]; show acc.length + 1 ≤ rp.2.2; omega
          have HAL := hidI hal
          clear hown hgr hvb HOW HLa HFa HRa HAa HVQ hal
          go_wp2_with fail
          go_roundw
          case rel => exact .inl ⟨acc ++ [rp.1], _, rp.2.1, rp.2.2, g2, g3, HAL.out, HR9.out, HL9.out, HP4, HA9.out⟩
          case measure => rw [HR9.out.meas, HME.out]; omega
        | true =>
          have hcl := HIH.out b s i5 (m + 1) (deep + 1) w6 (by omega) hr6 hk5 (by omega) hs
          have HP6 := hidI hp6
          have hq6 := hp6.lt
          clear hr6 hp6
          go_wp2_with fail
          refine hcl.mono ?_
          clear hcl
          rintro e w7 ⟨⟨a7, l7, c7, rfl, hok7⟩, herr7, hA7⟩
          have hp7 := HP6.out.away hA7 (by omega)
          have HA7 : Hid (Away b w1 w7) := HA6.out.trans hA7
          have q2 := hp7.c2
          have y2 := hp7.f2
          generalize hX7 : w7.setCell ⟨w1.heap.size, 2, none⟩ (.slice a7 l7 c7) = X7
          have HPX7 : Hid (PBox X7 w1.heap.size ⟨#[]⟩ r.1 a7 l7 c7) := by rw [← hX7]; exact hp7.set2 _ _ _
          have HAX7 : Hid (Away b w1 X7) := by rw [← hX7]; exact HA7.out.setNew (Nat.le_refl _)
          cases hl : pList s d i5 (m + 1) with
          | error x =>
            have HF : Hid (pList s (d + 1) i n = .error x) := by rw [HPQ.out, HTT.out, hc, hl]; rfl
            have HBZ : Hid (WBad X7 b s x) := by rw [← hX7]; exact (herr7 x hl).other (by omega)
            have HPZ := HPX7
            have HAZ := HAX7
            clear hok7 herr7 hA7 hp7 HA7 HPX7 HAX7 HTT HPQ hc hl HA6 HP6
            have q0 := HPZ.out.c0
            have q1 := HPZ.out.c1
            have q2 := HPZ.out.c2
            have HAw := HA1.out.trans HAZ.out
            have HLa := hidI ((HL1.out.away HAZ.out hbl).kept (below1 X7 (Obj.cells #[.string ⟨#[]⟩, .string r.1, .slice a7 l7 c7] 95)))
            have HBa := hidI (HBZ.out.kept (below1 X7 (Obj.cells #[.string ⟨#[]⟩, .string r.1, .slice a7 l7 c7] 95)))
            have HAa : Hid (Away b w (X7.alloc (Obj.cells #[.string ⟨#[]⟩, .string r.1, .slice a7 l7 c7] 95))) := HAw.trans (Away.of (below1 X7 _))
            have hNa : w.heap.size ≤ (X7.alloc (Obj.cells #[.string ⟨#[]⟩, .string r.1, .slice a7 l7 c7] 95)).heap.size := HAa.out.size
            have HOW := hidI HLa.out.row
            clear HAw HLa HPZ HAZ HL1 HA1
            go_wp2_with (at_builtin; refine wpList_append_any _ rfl _ _ 85 rfl w.heap.size 95 i0 _ 3 56 Try.underlying85 hi0 hz0 hz1 hz2 rfl (by decide) _ acc.length _ rfl HOW.out (some ⟨X7.heap.size, 0, none⟩) 1 1 [.string ⟨#[]⟩, .string r.1, .slice a7 l7 c7] rfl rfl (alloc_news X7 #[.string ⟨#[]⟩, .string r.1, .slice a7 l7 c7] _) (fun h => by cases h) (by intro u hu; simp at hu; rcases hu with rfl | rfl | rfl <;> rfl) (by unfold maxLen; omega) (by omega) hNa ?_)
            intro v' w9 hown hgr hvb
            obtain ⟨va', vc', hvv⟩ := own_slice hown
            subst hvv
            have HB9 : Hid (WBad w9 b s _) := (let ⟨h0, i', n', hi', hb'⟩ := HBa.out; ⟨h0, i', n', hi', (hgr.block b hb'.lt (fun e => by have := (HVQ.out b e.symm).2; omega)).trans hb'⟩)
            have HA9 : Hid (Away b w w9) := ⟨hgr.os.trans HAa.out.os, hgr.tape.trans HAa.out.tape, hgr.output.trans HAa.out.output, Nat.le_trans HAa.out.size hgr.size, fun k' hk' hb' => (hgr.block k' (Nat.lt_of_lt_of_le hk' HAa.out.size) (fun e => by have := (HVQ.out k' e.symm).2; omega)).trans (HAa.out.block k' hk' hb')⟩
            clear hown hgr hvb HOW HBa HAa HVQ HBZ
            go_wp2_with fail
            go_roundw
            case rel => exact .inr ⟨_, _, _, _, rfl, HB9.out, HF, HA9.out⟩
            case measure => rw [HB9.out.meas, HME.out]; omega
          | ok r7 =>
          obtain ⟨hl7, hc7, hr7, hf7⟩ := hok7 r7 hl
          subst hl7
          obtain ⟨rp, hrp⟩ : ∃ rp : Pick (d + 1) × Nat × Nat, rp = (mkPick ⟨#[]⟩ r.1 r7.1, r7.2.1, r7.2.2) := ⟨_, rfl⟩
          have HPK : Hid (pPick s (pList s d) k m = .ok rp) := by rw [HTT.out, hc, hl, hrp]; rfl
          have hsub : (subs rp.1).length = r7.1.length := by rw [hrp]; rfl
          have HPZ : Hid (PBox X7 w1.heap.size (nick rp.1) (pfield rp.1) a7 (subs rp.1).length c7) := by rw [hrp]; exact HPX7.out
          have HRZ : Hid (WBox X7 b s rp.2.1 rp.2.2 0 0) := by rw [hrp, ← hX7]; exact hr7.other (by omega)
          have hsw := HA6.out.size
          have HFZ : Hid (PicksFree (fun k => k < w1.heap.size) X7 d a7 (subs rp.1)) := by
            rw [hrp]
            refine hf7.step (by rw [← hX7]; simp) (fun k hk hnk => ?_) (fun k _ hk => ?_)
            · have h1 : ¬ k < w6.heap.size := hnk
              rw [← hX7, Below.heap_setCell _ _ _ _ (by show k ≠ w1.heap.size; omega)]
            · have h1 : k < w1.heap.size := hk
              show k < w6.heap.size; omega
          have hC : (subs rp.1).length ≤ c7 := by rw [hsub]; exact hc7
          have HAZ := HAX7
          clear hc HTT hrp hsub hok7 herr7 hA7 hp7 HA7 HPX7 HAX7 hl HA6 HP6 hr7 hf7 hc7
          obtain ⟨g1, g2, g3⟩ := (pPick_goes HG.out k m hkq hm).1 rp HPK.out
          obtain ⟨s0, s1, -⟩ := pPick_small HPK.out
          have hct := pPick_count HCT.out HPK.out
          have HP4 : Hid (pList s (d + 1) i n = pPicks s (pList s d) (s.size + 1) (acc ++ [rp.1]) rp.2.1 rp.2.2) := by
            rw [HPQ.out, HPK.out]
            exact pPicks_fuel HG.out _ _ _ _ _ g2 g3 (by omega) (by omega)
          have q0 := HPZ.out.c0
          have q1 := HPZ.out.c1
          have q2' := HPZ.out.c2
          have HLa := hidI ((HL1.out.away HAZ.out hbl).kept (below1 X7 (Obj.cells #[.string (nick rp.1), .string (pfield rp.1), .slice a7 (subs rp.1).length c7] 95)))
          have HFa : Hid (PicksFree (fun k => k < w1.heap.size) (X7.alloc (Obj.cells #[.string (nick rp.1), .string (pfield rp.1), .slice a7 (subs rp.1).length c7] 95)) d a7 (subs rp.1)) := HFZ.out.step (below1 _ _).size (fun k hk _ => (below1 X7 _).block k hk) (fun k _ h => h)
          have HRa := hidI (HRZ.out.kept (below1 X7 (Obj.cells #[.string (nick rp.1), .string (pfield rp.1), .slice a7 (subs rp.1).length c7] 95)))
          have HAa : Hid (Away b w (X7.alloc (Obj.cells #[.string (nick rp.1), .string (pfield rp.1), .slice a7 (subs rp.1).length c7] 95))) := (HA1.out.trans HAZ.out).trans (Away.of (below1 X7 _))
          have hNa : w.heap.size ≤ (X7.alloc (Obj.cells #[.string (nick rp.1), .string (pfield rp.1), .slice a7 (subs rp.1).length c7] 95)).heap.size := HAa.out.size
          have HOW := hidI HLa.out.row
          clear HPQ HPK HPZ HRZ HFZ HAZ HL1 HA1
          go_wp2_with (at_builtin; refine wpList_append_any _ rfl _ _ 85 rfl w.heap.size 95 i0 _ 3 56 Try.underlying85 hi0 hz0 hz1 hz2 rfl (by decide) _ acc.length _ rfl HOW.out (some ⟨X7.heap.size, 0, none⟩) 1 1 (pickL rp.1 (.slice a7 (subs rp.1).length c7)) rfl rfl (alloc_news X7 #[.string (nick rp.1), .string (pfield rp.1), .slice a7 (subs rp.1).length c7] _) (fun h => by cases h) (by intro u hu; simp [pickL] at hu; rcases hu with rfl | rfl | rfl <;> rfl) (by unfold maxLen; omega) (by omega) hNa ?_)
          intro v' w9 hown hgr hvb
          have HL9 := hidI (HLa.out.app hC s0 s1 HFa.out hw1 (fun k' hk' => (HVQ.out k' hk').1) hown hgr (by simpa using hvb))
          have HR9 : Hid (WBox w9 b s rp.2.1 rp.2.2 0 0) := (hgr.block b HRa.out.lt (fun e => by have := (HVQ.out b e.symm).2; omega)).trans HRa.out
          have HA9 : Hid (Away b w w9) := ⟨hgr.os.trans HAa.out.os, hgr.tape.trans HAa.out.tape, hgr.output.trans HAa.out.output, Nat.le_trans HAa.out.size hgr.size, fun k' hk' hb' => (hgr.block k' (Nat.lt_of_lt_of_le hk' HAa.out.size) (fun e => by have := (HVQ.out k' e.symm).2; omega)).trans (HAa.out.block k' hk' hb')⟩
          have hal : (acc ++ [rp.1]).length ≤ rp.2.2 := by rw [List.length_append]; show acc.length + 1 ≤ rp.2.2; omega
          have HAL := hidI hal
          clear hown hgr hvb HOW HLa HFa HRa HAa HVQ hal
          go_wp2_with fail
          go_roundw
          case rel => exact .inl ⟨acc ++ [rp.1], _, rp.2.1, rp.2.2, g2, g3, HAL.out, HR9.out, HL9.out, HP4, HA9.out⟩
          case measure => rw [HR9.out.meas, HME.out]; omega
      | true =>
        have hlt2 := isAt_lt hc2
        have HPN : Hid (pPick s (pList s d) k m = (match pName s (i2 + 1) with | .error e => .error e | .ok r' => pTail s (pList s d) r.1 r'.1 r'.2 (m + 1))) := by rw [HPP.out, hc2]; rfl
        clear hc2 HPP
        have c1 := hr2.c1
        have f1 := hr2.f1
        generalize hX2 : w2.setCell ⟨b, 1, none⟩ (.int .i64 ((i2 : Int) + 1)) = X2
        have hrX2 : WBox X2 b s (i2 + 1) (m + 1) 0 0 := by rw [← hX2]; exact hr2.setAt (i2 + 1)
        have hPX2 : PBox X2 w1.heap.size ⟨#[]⟩ r.1 none 0 0 := by rw [← hX2]; exact HP2.out.other (by omega)
        have HAX2 : Hid (Away b w1 X2) := by rw [← hX2]; exact HA2.out.trans (Away.set _ _ _ _)
        have q1 := hPX2.c1
        have q0 := hPX2.c0
        have y0 := hPX2.f0
        generalize hX3 : X2.setCell ⟨w1.heap.size, 0, none⟩ (.string r.1) = X3
        have hrX3 : WBox X3 b s (i2 + 1) (m + 1) 0 0 := by rw [← hX3]; exact hrX2.other (by omega)
        have HPX3 : Hid (PBox X3 w1.heap.size r.1 r.1 none 0 0) := by rw [← hX3]; exact hPX2.set0 _
        have HAX3 : Hid (Away b w1 X3) := by rw [← hX3]; exact HAX2.out.setNew (Nat.le_refl _)
        have hcl := rname_ok b s (i2 + 1) (m + 1) X3 hrX3 (by omega) hs
        clear hr2 HP2 HA2 hrX2 hPX2 HAX2 hrX3
        go_wp2_with fail
        clear hX3 hX2 q1 q0 y0 c1 f1
        refine hcl.mono ?_
        clear hcl
        rintro e w5 ⟨⟨t5, rfl, ht5⟩, hok5, herr5, hA5⟩
        have hp5 := HPX3.out.away hA5 (by omega)
        have HA5 : Hid (Away b w1 w5) := HAX3.out.trans hA5
        have q1 := hp5.c1
        have y1 := hp5.f1
        generalize hX5 : w5.setCell ⟨w1.heap.size, 1, none⟩ (.string t5) = X5
        have HPX5 : Hid (PBox X5 w1.heap.size r.1 t5 none 0 0) := by rw [← hX5]; exact hp5.set1 _
        have HAX5 : Hid (Away b w1 X5) := by rw [← hX5]; exact HA5.out.setNew (Nat.le_refl _)
        clear hA5 hp5 HA5 HPX3 HAX3
        cases hnm5 : pName s (i2 + 1) with
        | error x =>
          have HF : Hid (pList s (d + 1) i n = .error x) := by rw [HPQ.out, HPN.out, hnm5]; rfl
          have HBZ : Hid (WBad X5 b s x) := by rw [← hX5]; exact (herr5 x hnm5).other (by omega)
          have HPZ := HPX5
          have HAZ := HAX5
          clear hok5 herr5 ht5 hnm5 HPN HPQ HPX5 HAX5
          have hon := on_bad b s x 123 X5 HBZ.out
          go_wp2_with fail
          clear hX5 q1 y1
          refine hon.mono ?_
          clear hon
          rintro e wo ⟨rfl, hwo⟩
          rw [hwo]
          clear hwo
          have q0 := HPZ.out.c0
          have q1 := HPZ.out.c1
          have q2 := HPZ.out.c2
          have HAw := HA1.out.trans HAZ.out
          have HLa := hidI ((HL1.out.away HAZ.out hbl).kept (below1 X5 (Obj.cells #[.string r.1, .string t5, .slice none 0 0] 95)))
          have HBa := hidI (HBZ.out.kept (below1 X5 (Obj.cells #[.string r.1, .string t5, .slice none 0 0] 95)))
          have HAa : Hid (Away b w (X5.alloc (Obj.cells #[.string r.1, .string t5, .slice none 0 0] 95))) := HAw.trans (Away.of (below1 X5 _))
          have hNa : w.heap.size ≤ (X5.alloc (Obj.cells #[.string r.1, .string t5, .slice none 0 0] 95)).heap.size := HAa.out.size
          have HOW := hidI HLa.out.row
          clear HAw HLa HPZ HAZ HL1 HA1
          go_wp2_with (at_builtin; refine wpList_append_any _ rfl _ _ 85 rfl w.heap.size 95 i0 _ 3 56 Try.underlying85 hi0 hz0 hz1 hz2 rfl (by decide) _ acc.length _ rfl HOW.out (some ⟨X5.heap.size, 0, none⟩) 1 1 [.string r.1, .string t5, .slice none 0 0] rfl rfl (alloc_news X5 #[.string r.1, .string t5, .slice none 0 0] _) (fun h => by cases h) (by intro u hu; simp at hu; rcases hu with rfl | rfl | rfl <;> rfl) (by unfold maxLen; omega) (by omega) hNa ?_)
          intro v' w9 hown hgr hvb
          obtain ⟨va', vc', hvv⟩ := own_slice hown
          subst hvv
          have HB9 : Hid (WBad w9 b s _) := (let ⟨h0, i', n', hi', hb'⟩ := HBa.out; ⟨h0, i', n', hi', (hgr.block b hb'.lt (fun e => by have := (HVQ.out b e.symm).2; omega)).trans hb'⟩)
          have HA9 : Hid (Away b w w9) := ⟨hgr.os.trans HAa.out.os, hgr.tape.trans HAa.out.tape, hgr.output.trans HAa.out.output, Nat.le_trans HAa.out.size hgr.size, fun k' hk' hb' => (hgr.block k' (Nat.lt_of_lt_of_le hk' HAa.out.size) (fun e => by have := (HVQ.out k' e.symm).2; omega)).trans (HAa.out.block k' hk' hb')⟩
          clear hown hgr hvb HOW HBa HAa HVQ HBZ
          go_wp2_with fail
          go_roundw
          case rel => exact .inr ⟨_, _, _, _, rfl, HB9.out, HF, HA9.out⟩
          case measure => rw [HB9.out.meas, HME.out]; omega
        | ok r5 =>
        have ht' := ht5 r5 hnm5
        subst ht'
        obtain ⟨hb1, hb2, hb3⟩ := pName_at hnm5
        have HT : Hid (pPick s (pList s d) k m = pTail s (pList s d) r.1 r5.1 r5.2 (m + 1)) := by rw [HPN.out, hnm5]; rfl
        have HRY : Hid (WBox X5 b s r5.2 (m + 1) 0 0) := by rw [← hX5]; exact (hok5 r5 hnm5).other (by omega)
        have hIs := hb2
        have HPY := HPX5
        have HAY := HAX5
        clear hok5 herr5 ht5 hnm5 HPN HPX5 HAX5
        have hcl := on_ok b s r5.2 (m + 1) 123 X5 HRY.out hIs hs
        have HTT : Hid (pPick s (pList s d) k m = if isAt s (skipB s r5.2) 123 then (match pList s d (skipB s r5.2) (m + 1) with | .error e => .error e | .ok q => .ok (mkPick r.1 r5.1 q.1, q.2.1, q.2.2)) else .ok (mkPick r.1 r5.1 [], skipB s r5.2, m + 1)) := HT.out
        have hk5 := skip_le hIs
        clear HT
        generalize skipB s r5.2 = i5 at *
        go_wp2_with fail
        clear hX5 q1 y1
        refine hcl.mono ?_
        clear hcl
        rintro e w6 ⟨rfl, hr6, hA6⟩
        have hp6 := HPY.out.away hA6 (by omega)
        have HA6 : Hid (Away b w1 w6) := HAY.out.trans hA6
        clear hA6 HPY HAY HRY
        cases hc : isAt s i5 123 with
        | false =>
          obtain ⟨rp, hrp⟩ : ∃ rp : Pick (d + 1) × Nat × Nat, rp = (mkPick r.1 r5.1 [], i5, m + 1) := ⟨_, rfl⟩
          have HPK : Hid (pPick s (pList s d) k m = .ok rp) := by rw [HTT.out, hc, hrp]; rfl
          have HPZ : Hid (PBox w6 w1.heap.size (nick rp.1) (pfield rp.1) none (subs rp.1).length 0) := by rw [hrp]; exact hp6
          have HRZ : Hid (WBox w6 b s rp.2.1 rp.2.2 0 0) := by rw [hrp]; exact hr6
          have HFZ : Hid (PicksFree (fun k => k < w1.heap.size) w6 d none (subs rp.1)) := by rw [hrp]; exact PicksFree.none
          have hC : (subs rp.1).length ≤ 0 := by rw [hrp]; exact Nat.le_refl _
          have HAZ := HA6
          clear hc HTT hrp hp6 hr6 HA6
          obtain ⟨g1, g2, g3⟩ := (pPick_goes HG.out k m hkq hm).1 rp HPK.out
          obtain ⟨s0, s1, -⟩ := pPick_small HPK.out
          have hct := pPick_count HCT.out HPK.out
          have HP4 : Hid (pList s (d + 1) i n = pPicks s (pList s d) (s.size + 1) (acc ++ [rp.1]) rp.2.1 rp.2.2) := by
            rw [HPQ.out, HPK.out]
            exact pPicks_fuel HG.out _ _ _ _ _ g2 g3 (by omega) (by omega)
          have q0 := HPZ.out.c0
          have q1 := HPZ.out.c1
          have q2' := HPZ.out.c2
          have HLa := hidI ((HL1.out.away HAZ.out hbl).kept (below1 w6 (Obj.cells #[.string (nick rp.1), .string (pfield rp.1), .slice none (subs rp.1).length 0] 95)))
          have HFa : Hid (PicksFree (fun k => k < w1.heap.size) (w6.alloc (Obj.cells #[.string (nick rp.1), .string (pfield rp.1), .slice none (subs rp.1).length 0] 95)) d none (subs rp.1)) := HFZ.out.step (below1 _ _).size (fun k hk _ => (below1 w6 _).block k hk) (fun k _ h => h)
          have HRa := hidI (HRZ.out.kept (below1 w6 (Obj.cells #[.string (nick rp.1), .string (pfield rp.1), .slice none (subs rp.1).length 0] 95)))
          have HAa : Hid (Away b w (w6.alloc (Obj.cells #[.string (nick rp.1), .string (pfield rp.1), .slice none (subs rp.1).length 0] 95))) := (HA1.out.trans HAZ.out).trans (Away.of (below1 w6 _))
          have hNa : w.heap.size ≤ (w6.alloc (Obj.cells #[.string (nick rp.1), .string (pfield rp.1), .slice none (subs rp.1).length 0] 95)).heap.size := HAa.out.size
          have HOW := hidI HLa.out.row
          clear HPQ HPK HPZ HRZ HFZ HAZ HL1 HA1
          go_wp2_with (at_builtin; refine wpList_append_any _ rfl _ _ 85 rfl w.heap.size 95 i0 _ 3 56 Try.underlying85 hi0 hz0 hz1 hz2 rfl (by decide) _ acc.length _ rfl HOW.out (some ⟨w6.heap.size, 0, none⟩) 1 1 (pickL rp.1 (.slice none (subs rp.1).length 0)) rfl rfl (alloc_news w6 #[.string (nick rp.1), .string (pfield rp.1), .slice none (subs rp.1).length 0] _) (fun h => by cases h) (by intro u hu; simp [pickL] at hu; rcases hu with rfl | rfl | rfl <;> rfl) (by unfold maxLen; omega) (by omega) hNa ?_)
          intro v' w9 hown hgr hvb
          have HL9 := hidI (HLa.out.app hC s0 s1 HFa.out hw1 (fun k' hk' => (HVQ.out k' hk').1) hown hgr (by simpa using hvb))
          have HR9 : Hid (WBox w9 b s rp.2.1 rp.2.2 0 0) := (hgr.block b HRa.out.lt (fun e => by have := (HVQ.out b e.symm).2; omega)).trans HRa.out
          have HA9 : Hid (Away b w w9) := ⟨hgr.os.trans HAa.out.os, hgr.tape.trans HAa.out.tape, hgr.output.trans HAa.out.output, Nat.le_trans HAa.out.size hgr.size, fun k' hk' hb' => (hgr.block k' (Nat.lt_of_lt_of_le hk' HAa.out.size) (fun e => by have := (HVQ.out k' e.symm).2; omega)).trans (HAa.out.block k' hk' hb')⟩
          have hal : (acc ++ [rp.1]).length ≤ rp.2.2 := by rw [List.length_append]; show acc.length + 1 ≤ rp.2.2; omega
          have HAL := hidI hal
          clear hown hgr hvb HOW HLa HFa HRa HAa HVQ hal
          go_wp2_with fail
          go_roundw
          case rel => exact .inl ⟨acc ++ [rp.1], _, rp.2.1, rp.2.2, g2, g3, HAL.out, HR9.out, HL9.out, HP4, HA9.out⟩
          case measure => rw [HR9.out.meas, HME.out]; omega
        | true =>
          have hcl := HIH.out b s i5 (m + 1) (deep + 1) w6 (by omega) hr6 hk5 (by omega) hs
          have HP6 := hidI hp6
          have hq6 := hp6.lt
          clear hr6 hp6
          go_wp2_with fail
          refine hcl.mono ?_
          clear hcl
          rintro e w7 ⟨⟨a7, l7, c7, rfl, hok7⟩, herr7, hA7⟩
          have hp7 := HP6.out.away hA7 (by omega)
          have HA7 : Hid (Away b w1 w7) := HA6.out.trans hA7
          have q2 := hp7.c2
          have y2 := hp7.f2
          generalize hX7 : w7.setCell ⟨w1.heap.size, 2, none⟩ (.slice a7 l7 c7) = X7
          have HPX7 : Hid (PBox X7 w1.heap.size r.1 r5.1 a7 l7 c7) := by rw [← hX7]; exact hp7.set2 _ _ _
          have HAX7 : Hid (Away b w1 X7) := by rw [← hX7]; exact HA7.out.setNew (Nat.le_refl _)
          cases hl : pList s d i5 (m + 1) with
          | error x =>
            have HF : Hid (pList s (d + 1) i n = .error x) := by rw [HPQ.out, HTT.out, hc, hl]; rfl
            have HBZ : Hid (WBad X7 b s x) := by rw [← hX7]; exact (herr7 x hl).other (by omega)
            have HPZ := HPX7
            have HAZ := HAX7
            clear hok7 herr7 hA7 hp7 HA7 HPX7 HAX7 HTT HPQ hc hl HA6 HP6
            have q0 := HPZ.out.c0
            have q1 := HPZ.out.c1
            have q2 := HPZ.out.c2
            have HAw := HA1.out.trans HAZ.out
            have HLa := hidI ((HL1.out.away HAZ.out hbl).kept (below1 X7 (Obj.cells #[.string r.1, .string r5.1, .slice a7 l7 c7] 95)))
            have HBa := hidI (HBZ.out.kept (below1 X7 (Obj.cells #[.string r.1, .string r5.1, .slice a7 l7 c7] 95)))
            have HAa : Hid (Away b w (X7.alloc (Obj.cells #[.string r.1, .string r5.1, .slice a7 l7 c7] 95))) := HAw.trans (Away.of (below1 X7 _))
            have hNa : w.heap.size ≤ (X7.alloc (Obj.cells #[.string r.1, .string r5.1, .slice a7 l7 c7] 95)).heap.size := HAa.out.size
            have HOW := hidI HLa.out.row
            clear HAw HLa HPZ HAZ HL1 HA1
            go_wp2_with (at_builtin; refine wpList_append_any _ rfl _ _ 85 rfl w.heap.size 95 i0 _ 3 56 Try.underlying85 hi0 hz0 hz1 hz2 rfl (by decide) _ acc.length _ rfl HOW.out (some ⟨X7.heap.size, 0, none⟩) 1 1 [.string r.1, .string r5.1, .slice a7 l7 c7] rfl rfl (alloc_news X7 #[.string r.1, .string r5.1, .slice a7 l7 c7] _) (fun h => by cases h) (by intro u hu; simp at hu; rcases hu with rfl | rfl | rfl <;> rfl) (by unfold maxLen; omega) (by omega) hNa ?_)
            intro v' w9 hown hgr hvb
            obtain ⟨va', vc', hvv⟩ := own_slice hown
            subst hvv
            have HB9 : Hid (WBad w9 b s _) := (let ⟨h0, i', n', hi', hb'⟩ := HBa.out; ⟨h0, i', n', hi', (hgr.block b hb'.lt (fun e => by have := (HVQ.out b e.symm).2; omega)).trans hb'⟩)
            have HA9 : Hid (Away b w w9) := ⟨hgr.os.trans HAa.out.os, hgr.tape.trans HAa.out.tape, hgr.output.trans HAa.out.output, Nat.le_trans HAa.out.size hgr.size, fun k' hk' hb' => (hgr.block k' (Nat.lt_of_lt_of_le hk' HAa.out.size) (fun e => by have := (HVQ.out k' e.symm).2; omega)).trans (HAa.out.block k' hk' hb')⟩
            clear hown hgr hvb HOW HBa HAa HVQ HBZ
            go_wp2_with fail
            go_roundw
            case rel => exact .inr ⟨_, _, _, _, rfl, HB9.out, HF, HA9.out⟩
            case measure => rw [HB9.out.meas, HME.out]; omega
          | ok r7 =>
          obtain ⟨hl7, hc7, hr7, hf7⟩ := hok7 r7 hl
          subst hl7
          obtain ⟨rp, hrp⟩ : ∃ rp : Pick (d + 1) × Nat × Nat, rp = (mkPick r.1 r5.1 r7.1, r7.2.1, r7.2.2) := ⟨_, rfl⟩
          have HPK : Hid (pPick s (pList s d) k m = .ok rp) := by rw [HTT.out, hc, hl, hrp]; rfl
          have hsub : (subs rp.1).length = r7.1.length := by rw [hrp]; rfl
          have HPZ : Hid (PBox X7 w1.heap.size (nick rp.1) (pfield rp.1) a7 (subs rp.1).length c7) := by rw [hrp]; exact HPX7.out
          have HRZ : Hid (WBox X7 b s rp.2.1 rp.2.2 0 0) := by rw [hrp, ← hX7]; exact hr7.other (by omega)
          have hsw := HA6.out.size
          have HFZ : Hid (PicksFree (fun k => k < w1.heap.size) X7 d a7 (subs rp.1)) := by
            rw [hrp]
            refine hf7.step (by rw [← hX7]; simp) (fun k hk hnk => ?_) (fun k _ hk => ?_)
            · have h1 : ¬ k < w6.heap.size := hnk
              rw [← hX7, Below.heap_setCell _ _ _ _ (by show k ≠ w1.heap.size; omega)]
            · have h1 : k < w1.heap.size := hk
              show k < w6.heap.size; omega
          have hC : (subs rp.1).length ≤ c7 := by rw [hsub]; exact hc7
          have HAZ := HAX7
          clear hc HTT hrp hsub hok7 herr7 hA7 hp7 HA7 HPX7 HAX7 hl HA6 HP6 hr7 hf7 hc7
          obtain ⟨g1, g2, g3⟩ := (pPick_goes HG.out k m hkq hm).1 rp HPK.out
          obtain ⟨s0, s1, -⟩ := pPick_small HPK.out
          have hct := pPick_count HCT.out HPK.out
          have HP4 : Hid (pList s (d + 1) i n = pPicks s (pList s d) (s.size + 1) (acc ++ [rp.1]) rp.2.1 rp.2.2) := by
            rw [HPQ.out, HPK.out]
            exact pPicks_fuel HG.out _ _ _ _ _ g2 g3 (by omega) (by omega)
          have q0 := HPZ.out.c0
          have q1 := HPZ.out.c1
          have q2' := HPZ.out.c2
          have HLa := hidI ((HL1.out.away HAZ.out hbl).kept (below1 X7 (Obj.cells #[.string (nick rp.1), .string (pfield rp.1), .slice a7 (subs rp.1).length c7] 95)))
          have HFa : Hid (PicksFree (fun k => k < w1.heap.size) (X7.alloc (Obj.cells #[.string (nick rp.1), .string (pfield rp.1), .slice a7 (subs rp.1).length c7] 95)) d a7 (subs rp.1)) := HFZ.out.step (below1 _ _).size (fun k hk _ => (below1 X7 _).block k hk) (fun k _ h => h)
          have HRa := hidI (HRZ.out.kept (below1 X7 (Obj.cells #[.string (nick rp.1), .string (pfield rp.1), .slice a7 (subs rp.1).length c7] 95)))
          have HAa : Hid (Away b w (X7.alloc (Obj.cells #[.string (nick rp.1), .string (pfield rp.1), .slice a7 (subs rp.1).length c7] 95))) := (HA1.out.trans HAZ.out).trans (Away.of (below1 X7 _))
          have hNa : w.heap.size ≤ (X7.alloc (Obj.cells #[.string (nick rp.1), .string (pfield rp.1), .slice a7 (subs rp.1).length c7] 95)).heap.size := HAa.out.size
          have HOW := hidI HLa.out.row
          clear HPQ HPK HPZ HRZ HFZ HAZ HL1 HA1
          go_wp2_with (at_builtin; refine wpList_append_any _ rfl _ _ 85 rfl w.heap.size 95 i0 _ 3 56 Try.underlying85 hi0 hz0 hz1 hz2 rfl (by decide) _ acc.length _ rfl HOW.out (some ⟨X7.heap.size, 0, none⟩) 1 1 (pickL rp.1 (.slice a7 (subs rp.1).length c7)) rfl rfl (alloc_news X7 #[.string (nick rp.1), .string (pfield rp.1), .slice a7 (subs rp.1).length c7] _) (fun h => by cases h) (by intro u hu; simp [pickL] at hu; rcases hu with rfl | rfl | rfl <;> rfl) (by unfold maxLen; omega) (by omega) hNa ?_)
          intro v' w9 hown hgr hvb
          have HL9 := hidI (HLa.out.app hC s0 s1 HFa.out hw1 (fun k' hk' => (HVQ.out k' hk').1) hown hgr (by simpa using hvb))
          have HR9 : Hid (WBox w9 b s rp.2.1 rp.2.2 0 0) := (hgr.block b HRa.out.lt (fun e => by have := (HVQ.out b e.symm).2; omega)).trans HRa.out
          have HA9 : Hid (Away b w w9) := ⟨hgr.os.trans HAa.out.os, hgr.tape.trans HAa.out.tape, hgr.output.trans HAa.out.output, Nat.le_trans HAa.out.size hgr.size, fun k' hk' hb' => (hgr.block k' (Nat.lt_of_lt_of_le hk' HAa.out.size) (fun e => by have := (HVQ.out k' e.symm).2; omega)).trans (HAa.out.block k' hk' hb')⟩
          have hal : (acc ++ [rp.1]).length ≤ rp.2.2 := by rw [List.length_append]; show acc.length + 1 ≤ rp.2.2; omega
          have HAL := hidI hal
          clear hown hgr hvb HOW HLa HFa HRa HAa HVQ hal
          go_wp2_with fail
          go_roundw
          case rel => exact .inl ⟨acc ++ [rp.1], _, rp.2.1, rp.2.2, g2, g3, HAL.out, HR9.out, HL9.out, HP4, HA9.out⟩
          case measure => rw [HR9.out.meas, HME.out]; omega
    · have h0' : (0 : Int) < (acc.length : Int) := by omega
      have hem : acc.isEmpty = false := by
        cases h : acc.isEmpty with
        | false => rfl
        | true => exact absurd (by rw [List.isEmpty_iff.1 h]; rfl) h0
      rw [hem] at HUN
      have hcl := on_ok b s k m 125 wr Hr.out hk hs
      have hkq := skip_le hk
      have hkk := skip_ge s k
      clear Hr h0 hem
      generalize skipB s k = k2 at *
      go_wp2_with fail
      refine hcl.mono ?_
      clear hcl
      rintro e w2q ⟨rfl, hr2, hA2⟩
      have HLQ := hidI (HL.out.away hA2 hbl)
      have HAQ : Hid (Away b w w2q) := HA.out.trans hA2
      clear hA2 HL HA
      cases hc : isAt s k2 125 with
      | true =>
        have HF : Hid (pList s (d + 1) i n = .ok (acc, k2 + 1, m)) := by rw [HP.out, HUN.out, hc]; rfl
        have c1 := hr2.c1
        have f1 := hr2.f1
        generalize hX : w2q.setCell ⟨b, 1, none⟩ (.int .i64 ((k2 : Int) + 1)) = X
        have HR3 : Hid (WBox X b s (k2 + 1) m 0 0) := by rw [← hX]; exact hr2.setAt (k2 + 1)
        have hA3 : Away b w2q X := by rw [← hX]; exact Away.set _ _ _ _
        have HO := hidI ((HLQ.out.away hA3 hbl).out (by unfold maxLen; omega))
        have HA3 : Hid (Away b w X) := HAQ.out.trans hA3
        clear hc HP HUN hr2 hA3
        go_wp2_with fail
        go_ret
        obtain ⟨a', cap', e', h1, h2⟩ := HO.out
        cases e'
        refine ⟨⟨_, _, _, rfl, fun r h => ?_⟩, fun x h => ?_, HA3.out⟩
        · rw [HF.out] at h; cases h
          exact ⟨rfl, h1, HR3.out, h2⟩
        · rw [HF.out] at h; cases h
      | false =>
      have HPQ : Hid (pList s (d + 1) i n = (match pPick s (pList s d) k2 m with | .error e => .error e | .ok r => pPicks s (pList s d) s.size (acc ++ [r.1]) r.2.1 r.2.2)) := by rw [HP.out, HUN.out, hc]; rfl
      have HRQ := hidI hr2
      clear hc HP HUN hr2
      have hcl := rname_ok b s k2 m w2q HRQ.out hkq hs
      go_wp2_with fail
      refine hcl.mono ?_
      clear hcl
      rintro e w1 ⟨⟨t, rfl, ht⟩, hok, herr, hA1⟩
      have HL1 := hidI (HLQ.out.away hA1 hbl)
      have HA1 : Hid (Away b w w1) := HAQ.out.trans hA1
      have hw1 : w.heap.size ≤ w1.heap.size := HA1.out.size
      have HVQ : Hid (∀ k', (Value.slice va acc.length vc).ownBlock = some k' → k' < w1.heap.size ∧ w.heap.size ≤ k') := fun k' hk' => ⟨(HL1.out.row.lt hk').2, (HL1.out.row.lt hk').1⟩
      obtain ⟨U, hU⟩ : ∃ U, U = w1.alloc (Obj.cells #[.string ⟨#[]⟩, .string t, .slice none 0 0] 95) := ⟨_, rfl⟩
      have hBU : Below w1.heap.size w1 U := by rw [hU]; exact below1 _ _
      have HPU : Hid (PBox U w1.heap.size ⟨#[]⟩ t none 0 0) := by rw [hU]; exact heap_alloc_new _ _
      have HAU : Hid (Away b w1 U) := Away.of hBU
      clear hA1 HLQ HAQ
      cases hnm : pName s k2 with
      | error x =>
        have HF : Hid (pList s (d + 1) i n = .error x) := by rw [HPQ.out]; unfold pPick; rw [hnm]; rfl
        have HBZ := hidI ((herr x hnm).kept hBU)
        have HPZ := HPU
        have HAZ := HAU
        have hcl := ok_bad b s x U HBZ.out
        clear hok herr ht hnm hBU HPU HAU HPQ
        rw [hU] at hcl
        go_wp2_with fail
        rw [← hU]
        rw [← hU] at hcl
        clear hU
        refine hcl.mono ?_
        clear hcl
        rintro e w4 ⟨rfl, hw4⟩
        rw [hw4]
        clear hw4
        have hon := on_bad b s _ 58 U HBZ.out
        go_wp2_with fail
        refine hon.mono ?_
        clear hon
        rintro e wo ⟨rfl, hwo⟩
        rw [hwo]
        clear hwo
        have hon := on_bad b s _ 123 U HBZ.out
        go_wp2_with fail
        refine hon.mono ?_
        clear hon
        rintro e wo ⟨rfl, hwo⟩
        rw [hwo]
        clear hwo
        have q0 := HPZ.out.c0
        have q1 := HPZ.out.c1
        have q2 := HPZ.out.c2
        have HAw := HA1.out.trans HAZ.out
        have HLa := hidI ((HL1.out.away HAZ.out hbl).kept (below1 U (Obj.cells #[.string ⟨#[]⟩, .string t, .slice none 0 0] 95)))
        have HBa := hidI (HBZ.out.kept (below1 U (Obj.cells #[.string ⟨#[]⟩, .string t, .slice none 0 0] 95)))
        have HAa : Hid (Away b w (U.alloc (Obj.cells #[.string ⟨#[]⟩, .string t, .slice none 0 0] 95))) := HAw.trans (Away.of (below1 U _))
        have hNa : w.heap.size ≤ (U.alloc (Obj.cells #[.string ⟨#[]⟩, .string t, .slice none 0 0] 95)).heap.size := HAa.out.size
        have HOW := hidI HLa.out.row
        clear HAw HLa HPZ HAZ HL1 HA1
        go_wp2_with (at_builtin; refine wpList_append_any _ rfl _ _ 85 rfl w.heap.size 95 i0 _ 3 56 Try.underlying85 hi0 hz0 hz1 hz2 rfl (by decide) _ acc.length _ rfl HOW.out (some ⟨U.heap.size, 0, none⟩) 1 1 [.string ⟨#[]⟩, .string t, .slice none 0 0] rfl rfl (alloc_news U #[.string ⟨#[]⟩, .string t, .slice none 0 0] _) (fun h => by cases h) (by intro u hu; simp at hu; rcases hu with rfl | rfl | rfl <;> rfl) (by unfold maxLen; omega) (by omega) hNa ?_)
        intro v' w9 hown hgr hvb
        obtain ⟨va', vc', hvv⟩ := own_slice hown
        subst hvv
        have HB9 : Hid (WBad w9 b s _) := (let ⟨h0, i', n', hi', hb'⟩ := HBa.out; ⟨h0, i', n', hi', (hgr.block b hb'.lt (fun e => by have := (HVQ.out b e.symm).2; omega)).trans hb'⟩)
        have HA9 : Hid (Away b w w9) := ⟨hgr.os.trans HAa.out.os, hgr.tape.trans HAa.out.tape, hgr.output.trans HAa.out.output, Nat.le_trans HAa.out.size hgr.size, fun k' hk' hb' => (hgr.block k' (Nat.lt_of_lt_of_le hk' HAa.out.size) (fun e => by have := (HVQ.out k' e.symm).2; omega)).trans (HAa.out.block k' hk' hb')⟩
        clear hown hgr hvb HOW HBa HAa HVQ HBZ
        go_wp2_with fail
        go_roundw
        case rel => exact .inr ⟨_, _, _, _, rfl, HB9.out, HF, HA9.out⟩
        case measure => rw [HB9.out.meas, HME.out]; omega
      | ok r =>
      have ht' := ht r hnm
      subst ht'
      obtain ⟨ha1, ha2, hr12⟩ := pName_at hnm
      have HPP : Hid (pPick s (pList s d) k2 m = if 60 < m + 1 then .error (4, r.2) else if isAt s (skipB s r.2) 58 then (match pName s (skipB s r.2 + 1) with | .error e => .error e | .ok r' => pTail s (pList s d) r.1 r'.1 r'.2 (m + 1)) else pTail s (pList s d) ⟨#[]⟩ r.1 (skipB s r.2) (m + 1)) := by
        unfold pPick; rw [hnm]; rfl
      have hrU := (hok r hnm).kept hBU
      have hcl := ok_any b s r.2 m 0 0 U hrU
      clear hok herr ht hnm hBU
      rw [hU] at hcl
      go_wp2_with fail
      rw [← hU]
      rw [← hU] at hcl
      clear hU
      refine hcl.mono ?_
      clear hcl
      rintro e w4 ⟨rfl, hw4⟩
      rw [hw4]
      clear hw4
      have c2 := hrU.c2
      have f2 := hrU.free 2
      generalize hX : U.setCell ⟨b, 2, none⟩ (.int .i64 ((m : Int) + 1)) = X
      have hrX : WBox X b s r.2 (m + 1) 0 0 := by rw [← hX]; exact hrU.setN (m + 1)
      have HPX : Hid (PBox X w1.heap.size ⟨#[]⟩ r.1 none 0 0) := by rw [← hX]; exact HPU.out.other (by omega)
      have HAX : Hid (Away b w1 X) := by rw [← hX]; exact HAU.out.trans (Away.set _ _ _ _)
      have x2 : X.cell? ⟨b, 2, none⟩ = some (.int .i64 ((m : Int) + 1)) := hrX.c2
      clear hrU HPU HAU
      by_cases h60 : 60 < m + 1
      · have h60' : (60 : Int) < (m : Int) + 1 := by omega
        have HF : Hid (pList s (d + 1) i n = .error (4, r.2)) := by rw [HPQ.out, HPP.out, if_pos h60]; rfl
        have hst := stop_ok b s r.2 (m + 1) 4 X hrX
        clear HPP HPQ h60 hrX
        go_wp2_with fail
        clear hX x2 c2 f2
        refine hst.mono ?_
        clear hst
        rintro e w4 ⟨rfl, hb4, hA4⟩
        have HBZ : Hid (WBad w4 b s (4, r.2)) := ⟨by show (4 : Int) ≠ 0; decide, r.2, m + 1, ha2, hb4⟩
        have HPZ := hidI (HPX.out.away hA4 (by omega))
        have HAZ : Hid (Away b w1 w4) := HAX.out.trans hA4
        clear hb4 hA4 HPX HAX
        have hon := on_bad b s _ 58 w4 HBZ.out
        go_wp2_with fail
        refine hon.mono ?_
        clear hon
        rintro e wo ⟨rfl, hwo⟩
        rw [hwo]
        clear hwo
        have hon := on_bad b s _ 123 w4 HBZ.out
        go_wp2_with fail
        refine hon.mono ?_
        clear hon
        rintro e wo ⟨rfl, hwo⟩
        rw [hwo]
        clear hwo
        have q0 := HPZ.out.c0
        have q1 := HPZ.out.c1
        have q2 := HPZ.out.c2
        have HAw := HA1.out.trans HAZ.out
        have HLa := hidI ((HL1.out.away HAZ.out hbl).kept (below1 w4 (Obj.cells #[.string ⟨#[]⟩, .string r.1, .slice none 0 0] 95)))
        have HBa := hidI (HBZ.out.kept (below1 w4 (Obj.cells #[.string ⟨#[]⟩, .string r.1, .slice none 0 0] 95)))
        have HAa : Hid (Away b w (w4.alloc (Obj.cells #[.string ⟨#[]⟩, .string r.1, .slice none 0 0] 95))) := HAw.trans (Away.of (below1 w4 _))
        have hNa : w.heap.size ≤ (w4.alloc (Obj.cells #[.string ⟨#[]⟩, .string r.1, .slice none 0 0] 95)).heap.size := HAa.out.size
        have HOW := hidI HLa.out.row
        clear HAw HLa HPZ HAZ HL1 HA1
        go_wp2_with (at_builtin; refine wpList_append_any _ rfl _ _ 85 rfl w.heap.size 95 i0 _ 3 56 Try.underlying85 hi0 hz0 hz1 hz2 rfl (by decide) _ acc.length _ rfl HOW.out (some ⟨w4.heap.size, 0, none⟩) 1 1 [.string ⟨#[]⟩, .string r.1, .slice none 0 0] rfl rfl (alloc_news w4 #[.string ⟨#[]⟩, .string r.1, .slice none 0 0] _) (fun h => by cases h) (by intro u hu; simp at hu; rcases hu with rfl | rfl | rfl <;> rfl) (by unfold maxLen; omega) (by omega) hNa ?_)
        intro v' w9 hown hgr hvb
        obtain ⟨va', vc', hvv⟩ := own_slice hown
        subst hvv
        have HB9 : Hid (WBad w9 b s _) := (let ⟨h0, i', n', hi', hb'⟩ := HBa.out; ⟨h0, i', n', hi', (hgr.block b hb'.lt (fun e => by have := (HVQ.out b e.symm).2; omega)).trans hb'⟩)
        have HA9 : Hid (Away b w w9) := ⟨hgr.os.trans HAa.out.os, hgr.tape.trans HAa.out.tape, hgr.output.trans HAa.out.output, Nat.le_trans HAa.out.size hgr.size, fun k' hk' hb' => (hgr.block k' (Nat.lt_of_lt_of_le hk' HAa.out.size) (fun e => by have := (HVQ.out k' e.symm).2; omega)).trans (HAa.out.block k' hk' hb')⟩
        clear hown hgr hvb HOW HBa HAa HVQ HBZ
        go_wp2_with fail
        go_roundw
        case rel => exact .inr ⟨_, _, _, _, rfl, HB9.out, HF, HA9.out⟩
        case measure => rw [HB9.out.meas, HME.out]; omega
      have h60' : ¬ (60 : Int) < (m : Int) + 1 := by omega
      rw [if_neg h60] at HPP
      have hcl := on_ok b s r.2 (m + 1) 58 X hrX ha2 hs
      have hk2 := skip_le ha2
      clear hrX
      generalize skipB s r.2 = i2 at *
      go_wp2_with fail
      clear hX x2 c2 f2
      refine hcl.mono ?_
      clear hcl
      rintro e w2 ⟨rfl, hr2, hA2⟩
      have HP2 := hidI (HPX.out.away hA2 (by omega))
      have HA2 : Hid (Away b w1 w2) := HAX.out.trans hA2
      clear hA2 HPX HAX
      cases hc2 : isAt s i2 58 with
      | false =>
        have HT : Hid (pPick s (pList s d) k2 m = pTail s (pList s d) ⟨#[]⟩ r.1 i2 (m + 1)) := by rw [HPP.out, hc2]; rfl
        have HRY := hidI hr2
        have hIs := hk2
        have HPY := HP2
        have HAY := HA2
        clear hc2 HPP hr2 HP2 HA2
        have hcl := on_ok b s i2 (m + 1) 123 w2 HRY.out hIs hs
        have HTT : Hid (pPick s (pList s d) k2 m = if isAt s (skipB s i2) 123 then (match pList s d (skipB s i2) (m + 1) with | .error e => .error e | .ok q => .ok (mkPick ⟨#[]⟩ r.1 q.1, q.2.1, q.2.2)) else .ok (mkPick ⟨#[]⟩ r.1 [], skipB s i2, m + 1)) := HT.out
        have hk5 := skip_le hIs
        clear HT
        generalize skipB s i2 = i5 at *
        go_wp2_with fail
        refine hcl.mono ?_
        clear hcl
        rintro e w6 ⟨rfl, hr6, hA6⟩
        have hp6 := HPY.out.away hA6 (by omega)
        have HA6 : Hid (Away b w1 w6) := HAY.out.trans hA6
        clear hA6 HPY HAY HRY
        cases hc : isAt s i5 123 with
        | false =>
          obtain ⟨rp, hrp⟩ : ∃ rp : Pick (d + 1) × Nat × Nat, rp = (mkPick ⟨#[]⟩ r.1 [], i5, m + 1) := ⟨_, rfl⟩
          have HPK : Hid (pPick s (pList s d) k2 m = .ok rp) := by rw [HTT.out, hc, hrp]; rfl
          have HPZ : Hid (PBox w6 w1.heap.size (nick rp.1) (pfield rp.1) none (subs rp.1).length 0) := by rw [hrp]; exact hp6
          have HRZ : Hid (WBox w6 b s rp.2.1 rp.2.2 0 0) := by rw [hrp]; exact hr6
          have HFZ : Hid (PicksFree (fun k => k < w1.heap.size) w6 d none (subs rp.1)) := by rw [hrp]; exact PicksFree.none
          have hC : (subs rp.1).length ≤ 0 := by rw [hrp]; exact Nat.le_refl _
          have HAZ := HA6
          clear hc HTT hrp hp6 hr6 HA6
          obtain ⟨g1, g2, g3⟩ := (pPick_goes HG.out k2 m hkq hm).1 rp HPK.out
          obtain ⟨s0, s1, -⟩ := pPick_small HPK.out
          have hct := pPick_count HCT.out HPK.out
          have HP4 : Hid (pList s (d + 1) i n = pPicks s (pList s d) (s.size + 1) (acc ++ [rp.1]) rp.2.1 rp.2.2) := by
            rw [HPQ.out, HPK.out]
            exact pPicks_fuel HG.out _ _ _ _ _ g2 g3 (by omega) (by omega)
          have q0 := HPZ.out.c0
          have q1 := HPZ.out.c1
          have q2' := HPZ.out.c2
          have HLa := hidI ((HL1.out.away HAZ.out hbl).kept (below1 w6 (Obj.cells #[.string (nick rp.1), .string (pfield rp.1), .slice none (subs rp.1).length 0] 95)))
          have HFa : Hid (PicksFree (fun k => k < w1.heap.size) (w6.alloc (Obj.cells #[.string (nick rp.1), .string (pfield rp.1), .slice none (subs rp.1).length 0] 95)) d none (subs rp.1)) := HFZ.out.step (below1 _ _).size (fun k hk _ => (below1 w6 _).block k hk) (fun k _ h => h)
          have HRa := hidI (HRZ.out.kept (below1 w6 (Obj.cells #[.string (nick rp.1), .string (pfield rp.1), .slice none (subs rp.1).length 0] 95)))
          have HAa : Hid (Away b w (w6.alloc (Obj.cells #[.string (nick rp.1), .string (pfield rp.1), .slice none (subs rp.1).length 0] 95))) := (HA1.out.trans HAZ.out).trans (Away.of (below1 w6 _))
          have hNa : w.heap.size ≤ (w6.alloc (Obj.cells #[.string (nick rp.1), .string (pfield rp.1), .slice none (subs rp.1).length 0] 95)).heap.size := HAa.out.size
          have HOW := hidI HLa.out.row
          clear HPQ HPK HPZ HRZ HFZ HAZ HL1 HA1
          go_wp2_with (at_builtin; refine wpList_append_any _ rfl _ _ 85 rfl w.heap.size 95 i0 _ 3 56 Try.underlying85 hi0 hz0 hz1 hz2 rfl (by decide) _ acc.length _ rfl HOW.out (some ⟨w6.heap.size, 0, none⟩) 1 1 (pickL rp.1 (.slice none (subs rp.1).length 0)) rfl rfl (alloc_news w6 #[.string (nick rp.1), .string (pfield rp.1), .slice none (subs rp.1).length 0] _) (fun h => by cases h) (by intro u hu; simp [pickL] at hu; rcases hu with rfl | rfl | rfl <;> rfl) (by unfold maxLen; omega) (by omega) hNa ?_)
          intro v' w9 hown hgr hvb
          have HL9 := hidI (HLa.out.app hC s0 s1 HFa.out hw1 (fun k' hk' => (HVQ.out k' hk').1) hown hgr (by simpa using hvb))
          have HR9 : Hid (WBox w9 b s rp.2.1 rp.2.2 0 0) := (hgr.block b HRa.out.lt (fun e => by have := (HVQ.out b e.symm).2; omega)).trans HRa.out
          have HA9 : Hid (Away b w w9) := ⟨hgr.os.trans HAa.out.os, hgr.tape.trans HAa.out.tape, hgr.output.trans HAa.out.output, Nat.le_trans HAa.out.size hgr.size, fun k' hk' hb' => (hgr.block k' (Nat.lt_of_lt_of_le hk' HAa.out.size) (fun e => by have := (HVQ.out k' e.symm).2; omega)).trans (HAa.out.block k' hk' hb')⟩
          have hal : (acc ++ [rp.1]).length ≤ rp.2.2 := by rw [List.length_append]; show acc.length + 1 ≤ rp.2.2; omega
          have HAL := hidI hal
          clear hown hgr hvb HOW HLa HFa HRa HAa HVQ hal
          go_wp2_with fail
          go_roundw
          case rel => exact .inl ⟨acc ++ [rp.1], _, rp.2.1, rp.2.2, g2, g3, HAL.out, HR9.out, HL9.out, HP4, HA9.out⟩
          case measure => rw [HR9.out.meas, HME.out]; omega
        | true =>
          have hcl := HIH.out b s i5 (m + 1) (deep + 1) w6 (by omega) hr6 hk5 (by omega) hs
          have HP6 := hidI hp6
          have hq6 := hp6.lt
          clear hr6 hp6
          go_wp2_with fail
          refine hcl.mono ?_
          clear hcl
          rintro e w7 ⟨⟨a7, l7, c7, rfl, hok7⟩, herr7, hA7⟩
          have hp7 := HP6.out.away hA7 (by omega)
          have HA7 : Hid (Away b w1 w7) := HA6.out.trans hA7
          have q2 := hp7.c2
          have y2 := hp7.f2
          generalize hX7 : w7.setCell ⟨w1.heap.size, 2, none⟩ (.slice a7 l7 c7) = X7
          have HPX7 : Hid (PBox X7 w1.heap.size ⟨#[]⟩ r.1 a7 l7 c7) := by rw [← hX7]; exact hp7.set2 _ _ _
          have HAX7 : Hid (Away b w1 X7) := by rw [← hX7]; exact HA7.out.setNew (Nat.le_refl _)
          cases hl : pList s d i5 (m + 1) with
          | error x =>
            have HF : Hid (pList s (d + 1) i n = .error x) := by rw [HPQ.out, HTT.out, hc, hl]; rfl
            have HBZ : Hid (WBad X7 b s x) := by rw [← hX7]; exact (herr7 x hl).other (by omega)
            have HPZ := HPX7
            have HAZ := HAX7
            clear hok7 herr7 hA7 hp7 HA7 HPX7 HAX7 HTT HPQ hc hl HA6 HP6
            have q0 := HPZ.out.c0
            have q1 := HPZ.out.c1
            have q2 := HPZ.out.c2
            have HAw := HA1.out.trans HAZ.out
            have HLa := hidI ((HL1.out.away HAZ.out hbl).kept (below1 X7 (Obj.cells #[.string ⟨#[]⟩, .string r.1, .slice a7 l7 c7] 95)))
            have HBa := hidI (HBZ.out.kept (below1 X7 (Obj.cells #[.string ⟨#[]⟩, .string r.1, .slice a7 l7 c7] 95)))
            have HAa : Hid (Away b w (X7.alloc (Obj.cells #[.string ⟨#[]⟩, .string r.1, .slice a7 l7 c7] 95))) := HAw.trans (Away.of (below1 X7 _))
            have hNa : w.heap.size ≤ (X7.alloc (Obj.cells #[.string ⟨#[]⟩, .string r.1, .slice a7 l7 c7] 95)).heap.size := HAa.out.size
            have HOW := hidI HLa.out.row
            clear HAw HLa HPZ HAZ HL1 HA1
            go_wp2_with (at_builtin; refine wpList_append_any _ rfl _ _ 85 rfl w.heap.size 95 i0 _ 3 56 Try.underlying85 hi0 hz0 hz1 hz2 rfl (by decide) _ acc.length _ rfl HOW.out (some ⟨X7.heap.size, 0, none⟩) 1 1 [.string ⟨#[]⟩, .string r.1, .slice a7 l7 c7] rfl rfl (alloc_news X7 #[.string ⟨#[]⟩, .string r.1, .slice a7 l7 c7] _) (fun h => by cases h) (by intro u hu; simp at hu; rcases hu with rfl | rfl | rfl <;> rfl) (by unfold maxLen; omega) (by omega) hNa ?_)
            intro v' w9 hown hgr hvb
            obtain ⟨va', vc', hvv⟩ := own_slice hown
            subst hvv
            have HB9 : Hid (WBad w9 b s _) := (let ⟨h0, i', n', hi', hb'⟩ := HBa.out; ⟨h0, i', n', hi', (hgr.block b hb'.lt (fun e => by have := (HVQ.out b e.symm).2; omega)).trans hb'⟩)
            have HA9 : Hid (Away b w w9) := ⟨hgr.os.trans HAa.out.os, hgr.tape.trans HAa.out.tape, hgr.output.trans HAa.out.output, Nat.le_trans HAa.out.size hgr.size, fun k' hk' hb' => (hgr.block k' (Nat.lt_of_lt_of_le hk' HAa.out.size) (fun e => by have := (HVQ.out k' e.symm).2; omega)).trans (HAa.out.block k' hk' hb')⟩
            clear hown hgr hvb HOW HBa HAa HVQ HBZ
            go_wp2_with fail
            go_roundw
            case rel => exact .inr ⟨_, _, _, _, rfl, HB9.out, HF, HA9.out⟩
            case measure => rw [HB9.out.meas, HME.out]; omega
          | ok r7 =>
          obtain ⟨hl7, hc7, hr7, hf7⟩ := hok7 r7 hl
          subst hl7
          obtain ⟨rp, hrp⟩ : ∃ rp : Pick (d + 1) × Nat × Nat, rp = (mkPick ⟨#[]⟩ r.1 r7.1, r7.2.1, r7.2.2) := ⟨_, rfl⟩
          have HPK : Hid (pPick s (pList s d) k2 m = .ok rp) := by rw [HTT.out, hc, hl, hrp]; rfl
          have hsub : (subs rp.1).length = r7.1.length := by rw [hrp]; rfl
          have HPZ : Hid (PBox X7 w1.heap.size (nick rp.1) (pfield rp.1) a7 (subs rp.1).length c7) := by rw [hrp]; exact HPX7.out
          have HRZ : Hid (WBox X7 b s rp.2.1 rp.2.2 0 0) := by rw [hrp, ← hX7]; exact hr7.other (by omega)
          have hsw := HA6.out.size
          have HFZ : Hid (PicksFree (fun k => k < w1.heap.size) X7 d a7 (subs rp.1)) := by
            rw [hrp]
            refine hf7.step (by rw [← hX7]; simp) (fun k hk hnk => ?_) (fun k _ hk => ?_)
            · have h1 : ¬ k < w6.heap.size := hnk
              rw [← hX7, Below.heap_setCell _ _ _ _ (by show k ≠ w1.heap.size; omega)]
            · have h1 : k < w1.heap.size := hk
              show k < w6.heap.size; omega
          have hC : (subs rp.1).length ≤ c7 := by rw [hsub]; exact hc7
          have HAZ := HAX7
          clear hc HTT hrp hsub hok7 herr7 hA7 hp7 HA7 HPX7 HAX7 hl HA6 HP6 hr7 hf7 hc7
          obtain ⟨g1, g2, g3⟩ := (pPick_goes HG.out k2 m hkq hm).1 rp HPK.out
          obtain ⟨s0, s1, -⟩ := pPick_small HPK.out
          have hct := pPick_count HCT.out HPK.out
          have HP4 : Hid (pList s (d + 1) i n = pPicks s (pList s d) (s.size + 1) (acc ++ [rp.1]) rp.2.1 rp.2.2) := by
            rw [HPQ.out, HPK.out]
            exact pPicks_fuel HG.out _ _ _ _ _ g2 g3 (by omega) (by omega)
          have q0 := HPZ.out.c0
          have q1 := HPZ.out.c1
          have q2' := HPZ.out.c2
          have HLa := hidI ((HL1.out.away HAZ.out hbl).kept (below1 X7 (Obj.cells #[.string (nick rp.1), .string (pfield rp.1), .slice a7 (subs rp.1).length c7] 95)))
          have HFa : Hid (PicksFree (fun k => k < w1.heap.size) (X7.alloc (Obj.cells #[.string (nick rp.1), .string (pfield rp.1), .slice a7 (subs rp.1).length c7] 95)) d a7 (subs rp.1)) := HFZ.out.step (below1 _ _).size (fun k hk _ => (below1 X7 _).block k hk) (fun k _ h => h)
          have HRa := hidI (HRZ.out.kept (below1 X7 (Obj.cells #[.string (nick rp.1), .string (pfield rp.1), .slice a7 (subs rp.1).length c7] 95)))
          have HAa : Hid (Away b w (X7.alloc (Obj.cells #[.string (nick rp.1), .string (pfield rp.1), .slice a7 (subs rp.1).length c7] 95))) := (HA1.out.trans HAZ.out).trans (Away.of (below1 X7 _))
          have hNa : w.heap.size ≤ (X7.alloc (Obj.cells #[.string (nick rp.1), .string (pfield rp.1), .slice a7 (subs rp.1).length c7] 95)).heap.size := HAa.out.size
          have HOW := hidI HLa.out.row
          clear HPQ HPK HPZ HRZ HFZ HAZ HL1 HA1
          go_wp2_with (at_builtin; refine wpList_append_any _ rfl _ _ 85 rfl w.heap.size 95 i0 _ 3 56 Try.underlying85 hi0 hz0 hz1 hz2 rfl (by decide) _ acc.length _ rfl HOW.out (some ⟨X7.heap.size, 0, none⟩) 1 1 (pickL rp.1 (.slice a7 (subs rp.1).length c7)) rfl rfl (alloc_news X7 #[.string (nick rp.1), .string (pfield rp.1), .slice a7 (subs rp.1).length c7] _) (fun h => by cases h) (by intro u hu; simp [pickL] at hu; rcases hu with rfl | rfl | rfl <;> rfl) (by unfold maxLen; omega) (by omega) hNa ?_)
          intro v' w9 hown hgr hvb
          have HL9 := hidI (HLa.out.app hC s0 s1 HFa.out hw1 (fun k' hk' => (HVQ.out k' hk').1) hown hgr (by simpa using hvb))
          have HR9 : Hid (WBox w9 b s rp.2.1 rp.2.2 0 0) := (hgr.block b HRa.out.lt (fun e => by have := (HVQ.out b e.symm).2; omega)).trans HRa.out
          have HA9 : Hid (Away b w w9) := ⟨hgr.os.trans HAa.out.os, hgr.tape.trans HAa.out.tape, hgr.output.trans HAa.out.output, Nat.le_trans HAa.out.size hgr.size, fun k' hk' hb' => (hgr.block k' (Nat.lt_of_lt_of_le hk' HAa.out.size) (fun e => by have := (HVQ.out k' e.symm).2; omega)).trans (HAa.out.block k' hk' hb')⟩
          have hal : (acc ++ [rp.1]).length ≤ rp.2.2 := by rw [List.length_append]; show acc.length + 1 ≤ rp.2.2; omega
          have HAL := hidI hal
          clear hown hgr hvb HOW HLa HFa HRa HAa HVQ hal
          go_wp2_with fail
          go_roundw
          case rel => exact .inl ⟨acc ++ [rp.1], _, rp.2.1, rp.2.2, g2, g3, HAL.out, HR9.out, HL9.out, HP4, HA9.out⟩
          case measure => rw [HR9.out.meas, HME.out]; omega
      | true =>
        have hlt2 := isAt_lt hc2
        have HPN : Hid (pPick s (pList s d) k2 m = (match pName s (i2 + 1) with | .error e => .error e | .ok r' => pTail s (pList s d) r.1 r'.1 r'.2 (m + 1))) := by rw [HPP.out, hc2]; rfl
        clear hc2 HPP
        have c1 := hr2.c1
        have f1 := hr2.f1
        generalize hX2 : w2.setCell ⟨b, 1, none⟩ (.int .i64 ((i2 : Int) + 1)) = X2
        have hrX2 : WBox X2 b s (i2 + 1) (m + 1) 0 0 := by rw [← hX2]; exact hr2.setAt (i2 + 1)
        have hPX2 : PBox X2 w1.heap.size ⟨#[]⟩ r.1 none 0 0 := by rw [← hX2]; exact HP2.out.other (by omega)
        have HAX2 : Hid (Away b w1 X2) := by rw [← hX2]; exact HA2.out.trans (Away.set _ _ _ _)
        have q1 := hPX2.c1
        have q0 := hPX2.c0
        have y0 := hPX2.f0
        generalize hX3 : X2.setCell ⟨w1.heap.size, 0, none⟩ (.string r.1) = X3
        have hrX3 : WBox X3 b s (i2 + 1) (m + 1) 0 0 := by rw [← hX3]; exact hrX2.other (by omega)
        have HPX3 : Hid (PBox X3 w1.heap.size r.1 r.1 none 0 0) := by rw [← hX3]; exact hPX2.set0 _
        have HAX3 : Hid (Away b w1 X3) := by rw [← hX3]; exact HAX2.out.setNew (Nat.le_refl _)
        have hcl := rname_ok b s (i2 + 1) (m + 1) X3 hrX3 (by omega) hs
        clear hr2 HP2 HA2 hrX2 hPX2 HAX2 hrX3
        go_wp2_with fail
        clear hX3 hX2 q1 q0 y0 c1 f1
        refine hcl.mono ?_
        clear hcl
        rintro e w5 ⟨⟨t5, rfl, ht5⟩, hok5, herr5, hA5⟩
        have hp5 := HPX3.out.away hA5 (by omega)
        have HA5 : Hid (Away b w1 w5) := HAX3.out.trans hA5
        have q1 := hp5.c1
        have y1 := hp5.f1
        generalize hX5 : w5.setCell ⟨w1.heap.size, 1, none⟩ (.string t5) = X5
        have HPX5 : Hid (PBox X5 w1.heap.size r.1 t5 none 0 0) := by rw [← hX5]; exact hp5.set1 _
        have HAX5 : Hid (Away b w1 X5) := by rw [← hX5]; exact HA5.out.setNew (Nat.le_refl _)
        clear hA5 hp5 HA5 HPX3 HAX3
        cases hnm5 : pName s (i2 + 1) with
        | error x =>
          have HF : Hid (pList s (d + 1) i n = .error x) := by rw [HPQ.out, HPN.out, hnm5]; rfl
          have HBZ : Hid (WBad X5 b s x) := by rw [← hX5]; exact (herr5 x hnm5).other (by omega)
          have HPZ := HPX5
          have HAZ := HAX5
          clear hok5 herr5 ht5 hnm5 HPN HPQ HPX5 HAX5
          have hon := on_bad b s x 123 X5 HBZ.out
          go_wp2_with fail
          clear hX5 q1 y1
          refine hon.mono ?_
          clear hon
          rintro e wo ⟨rfl, hwo⟩
          rw [hwo]
          clear hwo
          have q0 := HPZ.out.c0
          have q1 := HPZ.out.c1
          have q2 := HPZ.out.c2
          have HAw := HA1.out.trans HAZ.out
          have HLa := hidI ((HL1.out.away HAZ.out hbl).kept (below1 X5 (Obj.cells #[.string r.1, .string t5, .slice none 0 0] 95)))
          have HBa := hidI (HBZ.out.kept (below1 X5 (Obj.cells #[.string r.1, .string t5, .slice none 0 0] 95)))
          have HAa : Hid (Away b w (X5.alloc (Obj.cells #[.string r.1, .string t5, .slice none 0 0] 95))) := HAw.trans (Away.of (below1 X5 _))
          have hNa : w.heap.size ≤ (X5.alloc (Obj.cells #[.string r.1, .string t5, .slice none 0 0] 95)).heap.size := HAa.out.size
          have HOW := hidI HLa.out.row
          clear HAw HLa HPZ HAZ HL1 HA1
          go_wp2_with (at_builtin; refine wpList_append_any _ rfl _ _ 85 rfl w.heap.size 95 i0 _ 3 56 Try.underlying85 hi0 hz0 hz1 hz2 rfl (by decide) _ acc.length _ rfl HOW.out (some ⟨X5.heap.size, 0, none⟩) 1 1 [.string r.1, .string t5, .slice none 0 0] rfl rfl (alloc_news X5 #[.string r.1, .string t5, .slice none 0 0] _) (fun h => by cases h) (by intro u hu; simp at hu; rcases hu with rfl | rfl | rfl <;> rfl) (by unfold maxLen; omega) (by omega) hNa ?_)
          intro v' w9 hown hgr hvb
          obtain ⟨va', vc', hvv⟩ := own_slice hown
          subst hvv
          have HB9 : Hid (WBad w9 b s _) := (let ⟨h0, i', n', hi', hb'⟩ := HBa.out; ⟨h0, i', n', hi', (hgr.block b hb'.lt (fun e => by have := (HVQ.out b e.symm).2; omega)).trans hb'⟩)
          have HA9 : Hid (Away b w w9) := ⟨hgr.os.trans HAa.out.os, hgr.tape.trans HAa.out.tape, hgr.output.trans HAa.out.output, Nat.le_trans HAa.out.size hgr.size, fun k' hk' hb' => (hgr.block k' (Nat.lt_of_lt_of_le hk' HAa.out.size) (fun e => by have := (HVQ.out k' e.symm).2; omega)).trans (HAa.out.block k' hk' hb')⟩
          clear hown hgr hvb HOW HBa HAa HVQ HBZ
          go_wp2_with fail
          go_roundw
          case rel => exact .inr ⟨_, _, _, _, rfl, HB9.out, HF, HA9.out⟩
          case measure => rw [HB9.out.meas, HME.out]; omega
        | ok r5 =>
        have ht' := ht5 r5 hnm5
        subst ht'
        obtain ⟨hb1, hb2, hb3⟩ := pName_at hnm5
        have HT : Hid (pPick s (pList s d) k2 m = pTail s (pList s d) r.1 r5.1 r5.2 (m + 1)) := by rw [HPN.out, hnm5]; rfl
        have HRY : Hid (WBox X5 b s r5.2 (m + 1) 0 0) := by rw [← hX5]; exact (hok5 r5 hnm5).other (by omega)
        have hIs := hb2
        have HPY := HPX5
        have HAY := HAX5
        clear hok5 herr5 ht5 hnm5 HPN HPX5 HAX5
        have hcl := on_ok b s r5.2 (m + 1) 123 X5 HRY.out hIs hs
        have HTT : Hid (pPick s (pList s d) k2 m = if isAt s (skipB s r5.2) 123 then (match pList s d (skipB s r5.2) (m + 1) with | .error e => .error e | .ok q => .ok (mkPick r.1 r5.1 q.1, q.2.1, q.2.2)) else .ok (mkPick r.1 r5.1 [], skipB s r5.2, m + 1)) := HT.out
        have hk5 := skip_le hIs
        clear HT
        generalize skipB s r5.2 = i5 at *
        go_wp2_with fail
        clear hX5 q1 y1
        refine hcl.mono ?_
        clear hcl
        rintro e w6 ⟨rfl, hr6, hA6⟩
        have hp6 := HPY.out.away hA6 (by omega)
        have HA6 : Hid (Away b w1 w6) := HAY.out.trans hA6
        clear hA6 HPY HAY HRY
        cases hc : isAt s i5 123 with
        | false =>
          obtain ⟨rp, hrp⟩ : ∃ rp : Pick (d + 1) × Nat × Nat, rp = (mkPick r.1 r5.1 [], i5, m + 1) := ⟨_, rfl⟩
          have HPK : Hid (pPick s (pList s d) k2 m = .ok rp) := by rw [HTT.out, hc, hrp]; rfl
          have HPZ : Hid (PBox w6 w1.heap.size (nick rp.1) (pfield rp.1) none (subs rp.1).length 0) := by rw [hrp]; exact hp6
          have HRZ : Hid (WBox w6 b s rp.2.1 rp.2.2 0 0) := by rw [hrp]; exact hr6
          have HFZ : Hid (PicksFree (fun k => k < w1.heap.size) w6 d none (subs rp.1)) := by rw [hrp]; exact PicksFree.none
          have hC : (subs rp.1).length ≤ 0 := by rw [hrp]; exact Nat.le_refl _
          have HAZ := HA6
          clear hc HTT hrp hp6 hr6 HA6
          obtain ⟨g1, g2, g3⟩ := (pPick_goes HG.out k2 m hkq hm).1 rp HPK.out
          obtain ⟨s0, s1, -⟩ := pPick_small HPK.out
          have hct := pPick_count HCT.out HPK.out
          have HP4 : Hid (pList s (d + 1) i n = pPicks s (pList s d) (s.size + 1) (acc ++ [rp.1]) rp.2.1 rp.2.2) := by
            rw [HPQ.out, HPK.out]
            exact pPicks_fuel HG.out _ _ _ _ _ g2 g3 (by omega) (by omega)
          have q0 := HPZ.out.c0
          have q1 := HPZ.out.c1
          have q2' := HPZ.out.c2
          have HLa := hidI ((HL1.out.away HAZ.out hbl).kept (below1 w6 (Obj.cells #[.string (nick rp.1), .string (pfield rp.1), .slice none (subs rp.1).length 0] 95)))
          have HFa : Hid (PicksFree (fun k => k < w1.heap.size) (w6.alloc (Obj.cells #[.string (nick rp.1), .string (pfield rp.1), .slice none (subs rp.1).length 0] 95)) d none (subs rp.1)) := HFZ.out.step (below1 _ _).size (fun k hk _ => (below1 w6 _).block k hk) (fun k _ h => h)
          have HRa := hidI (HRZ.out.kept (below1 w6 (Obj.cells #[.string (nick rp.1), .string (pfield rp.1), .slice none (subs rp.1).length 0] 95)))
          have HAa : Hid (Away b w (w6.alloc (Obj.cells #[.string (nick rp.1), .string (pfield rp.1), .slice none (subs rp.1).length 0] 95))) := (HA1.out.trans HAZ.out).trans (Away.of (below1 w6 _))
          have hNa : w.heap.size ≤ (w6.alloc (Obj.cells #[.string (nick rp.1), .string (pfield rp.1), .slice none (subs rp.1).length 0] 95)).heap.size := HAa.out.size
          have HOW := hidI HLa.out.row
          clear HPQ HPK HPZ HRZ HFZ HAZ HL1 HA1
          go_wp2_with (at_builtin; refine wpList_append_any _ rfl _ _ 85 rfl w.heap.size 95 i0 _ 3 56 Try.underlying85 hi0 hz0 hz1 hz2 rfl (by decide) _ acc.length _ rfl HOW.out (some ⟨w6.heap.size, 0, none⟩) 1 1 (pickL rp.1 (.slice none (subs rp.1).length 0)) rfl rfl (alloc_news w6 #[.string (nick rp.1), .string (pfield rp.1), .slice none (subs rp.1).length 0] _) (fun h => by cases h) (by intro u hu; simp [pickL] at hu; rcases hu with rfl | rfl | rfl <;> rfl) (by unfold maxLen; omega) (by omega) hNa ?_)
          intro v' w9 hown hgr hvb
          have HL9 := hidI (HLa.out.app hC s0 s1 HFa.out hw1 (fun k' hk' => (HVQ.out k' hk').1) hown hgr (by simpa using hvb))
          have HR9 : Hid (WBox w9 b s rp.2.1 rp.2.2 0 0) := (hgr.block b HRa.out.lt (fun e => by have := (HVQ.out b e.symm).2; omega)).trans HRa.out
          have HA9 : Hid (Away b w w9) := ⟨hgr.os.trans HAa.out.os, hgr.tape.trans HAa.out.tape, hgr.output.trans HAa.out.output, Nat.le_trans HAa.out.size hgr.size, fun k' hk' hb' => (hgr.block k' (Nat.lt_of_lt_of_le hk' HAa.out.size) (fun e => by have := (HVQ.out k' e.symm).2; omega)).trans (HAa.out.block k' hk' hb')⟩
          have hal : (acc ++ [rp.1]).length ≤ rp.2.2 := by rw [List.length_append]; show acc.length + 1 ≤ rp.2.2; omega
          have HAL := hidI hal
          clear hown hgr hvb HOW HLa HFa HRa HAa HVQ hal
          go_wp2_with fail
          go_roundw
          case rel => exact .inl ⟨acc ++ [rp.1], _, rp.2.1, rp.2.2, g2, g3, HAL.out, HR9.out, HL9.out, HP4, HA9.out⟩
          case measure => rw [HR9.out.meas, HME.out]; omega
        | true =>
          have hcl := HIH.out b s i5 (m + 1) (deep + 1) w6 (by omega) hr6 hk5 (by omega) hs
          have HP6 := hidI hp6
          have hq6 := hp6.lt
          clear hr6 hp6
          go_wp2_with fail
          refine hcl.mono ?_
          clear hcl
          rintro e w7 ⟨⟨a7, l7, c7, rfl, hok7⟩, herr7, hA7⟩
          have hp7 := HP6.out.away hA7 (by omega)
          have HA7 : Hid (Away b w1 w7) := HA6.out.trans hA7
          have q2 := hp7.c2
          have y2 := hp7.f2
          generalize hX7 : w7.setCell ⟨w1.heap.size, 2, none⟩ (.slice a7 l7 c7) = X7
          have HPX7 : Hid (PBox X7 w1.heap.size r.1 r5.1 a7 l7 c7) := by rw [← hX7]; exact hp7.set2 _ _ _
          have HAX7 : Hid (Away b w1 X7) := by rw [← hX7]; exact HA7.out.setNew (Nat.le_refl _)
          cases hl : pList s d i5 (m + 1) with
          | error x =>
            have HF : Hid (pList s (d + 1) i n = .error x) := by rw [HPQ.out, HTT.out, hc, hl]; rfl
            have HBZ : Hid (WBad X7 b s x) := by rw [← hX7]; exact (herr7 x hl).other (by omega)
            have HPZ := HPX7
            have HAZ := HAX7
            clear hok7 herr7 hA7 hp7 HA7 HPX7 HAX7 HTT HPQ hc hl HA6 HP6
            have q0 := HPZ.out.c0
            have q1 := HPZ.out.c1
            have q2 := HPZ.out.c2
            have HAw := HA1.out.trans HAZ.out
            have HLa := hidI ((HL1.out.away HAZ.out hbl).kept (below1 X7 (Obj.cells #[.string r.1, .string r5.1, .slice a7 l7 c7] 95)))
            have HBa := hidI (HBZ.out.kept (below1 X7 (Obj.cells #[.string r.1, .string r5.1, .slice a7 l7 c7] 95)))
            have HAa : Hid (Away b w (X7.alloc (Obj.cells #[.string r.1, .string r5.1, .slice a7 l7 c7] 95))) := HAw.trans (Away.of (below1 X7 _))
            have hNa : w.heap.size ≤ (X7.alloc (Obj.cells #[.string r.1, .string r5.1, .slice a7 l7 c7] 95)).heap.size := HAa.out.size
            have HOW := hidI HLa.out.row
            clear HAw HLa HPZ HAZ HL1 HA1
            go_wp2_with (at_builtin; refine wpList_append_any _ rfl _ _ 85 rfl w.heap.size 95 i0 _ 3 56 Try.underlying85 hi0 hz0 hz1 hz2 rfl (by decide) _ acc.length _ rfl HOW.out (some ⟨X7.heap.size, 0, none⟩) 1 1 [.string r.1, .string r5.1, .slice a7 l7 c7] rfl rfl (alloc_news X7 #[.string r.1, .string r5.1, .slice a7 l7 c7] _) (fun h => by cases h) (by intro u hu; simp at hu; rcases hu with rfl | rfl | rfl <;> rfl) (by unfold maxLen; omega) (by omega) hNa ?_)
            intro v' w9 hown hgr hvb
            obtain ⟨va', vc', hvv⟩ := own_slice hown
            subst hvv
            have HB9 : Hid (WBad w9 b s _) := (let ⟨h0, i', n', hi', hb'⟩ := HBa.out; ⟨h0, i', n', hi', (hgr.block b hb'.lt (fun e => by have := (HVQ.out b e.symm).2; omega)).trans hb'⟩)
            have HA9 : Hid (Away b w w9) := ⟨hgr.os.trans HAa.out.os, hgr.tape.trans HAa.out.tape, hgr.output.trans HAa.out.output, Nat.le_trans HAa.out.size hgr.size, fun k' hk' hb' => (hgr.block k' (Nat.lt_of_lt_of_le hk' HAa.out.size) (fun e => by have := (HVQ.out k' e.symm).2; omega)).trans (HAa.out.block k' hk' hb')⟩
            clear hown hgr hvb HOW HBa HAa HVQ HBZ
            go_wp2_with fail
            go_roundw
            case rel => exact .inr ⟨_, _, _, _, rfl, HB9.out, HF, HA9.out⟩
            case measure => rw [HB9.out.meas, HME.out]; omega
          | ok r7 =>
          obtain ⟨hl7, hc7, hr7, hf7⟩ := hok7 r7 hl
          subst hl7
          obtain ⟨rp, hrp⟩ : ∃ rp : Pick (d + 1) × Nat × Nat, rp = (mkPick r.1 r5.1 r7.1, r7.2.1, r7.2.2) := ⟨_, rfl⟩
          have HPK : Hid (pPick s (pList s d) k2 m = .ok rp) := by rw [HTT.out, hc, hl, hrp]; rfl
          have hsub : (subs rp.1).length = r7.1.length := by rw [hrp]; rfl
          have HPZ : Hid (PBox X7 w1.heap.size (nick rp.1) (pfield rp.1) a7 (subs rp.1).length c7) := by rw [hrp]; exact HPX7.out
          have HRZ : Hid (WBox X7 b s rp.2.1 rp.2.2 0 0) := by rw [hrp, ← hX7]; exact hr7.other (by omega)
          have hsw := HA6.out.size
          have HFZ : Hid (PicksFree (fun k => k < w1.heap.size) X7 d a7 (subs rp.1)) := by
            rw [hrp]
            refine hf7.step (by rw [← hX7]; simp) (fun k hk hnk => ?_) (fun k _ hk => ?_)
            · have h1 : ¬ k < w6.heap.size := hnk
              rw [← hX7, Below.heap_setCell _ _ _ _ (by show k ≠ w1.heap.size; omega)]
            · have h1 : k < w1.heap.size := hk
              show k < w6.heap.size; omega
          have hC : (subs rp.1).length ≤ c7 := by rw [hsub]; exact hc7
          have HAZ := HAX7
          clear hc HTT hrp hsub hok7 herr7 hA7 hp7 HA7 HPX7 HAX7 hl HA6 HP6 hr7 hf7 hc7
          obtain ⟨g1, g2, g3⟩ := (pPick_goes HG.out k2 m hkq hm).1 rp HPK.out
          obtain ⟨s0, s1, -⟩ := pPick_small HPK.out
          have hct := pPick_count HCT.out HPK.out
          have HP4 : Hid (pList s (d + 1) i n = pPicks s (pList s d) (s.size + 1) (acc ++ [rp.1]) rp.2.1 rp.2.2) := by
            rw [HPQ.out, HPK.out]
            exact pPicks_fuel HG.out _ _ _ _ _ g2 g3 (by omega) (by omega)
          have q0 := HPZ.out.c0
          have q1 := HPZ.out.c1
          have q2' := HPZ.out.c2
          have HLa := hidI ((HL1.out.away HAZ.out hbl).kept (below1 X7 (Obj.cells #[.string (nick rp.1), .string (pfield rp.1), .slice a7 (subs rp.1).length c7] 95)))
          have HFa : Hid (PicksFree (fun k => k < w1.heap.size) (X7.alloc (Obj.cells #[.string (nick rp.1), .string (pfield rp.1), .slice a7 (subs rp.1).length c7] 95)) d a7 (subs rp.1)) := HFZ.out.step (below1 _ _).size (fun k hk _ => (below1 X7 _).block k hk) (fun k _ h => h)
          have HRa := hidI (HRZ.out.kept (below1 X7 (Obj.cells #[.string (nick rp.1), .string (pfield rp.1), .slice a7 (subs rp.1).length c7] 95)))
          have HAa : Hid (Away b w (X7.alloc (Obj.cells #[.string (nick rp.1), .string (pfield rp.1), .slice a7 (subs rp.1).length c7] 95))) := (HA1.out.trans HAZ.out).trans (Away.of (below1 X7 _))
          have hNa : w.heap.size ≤ (X7.alloc (Obj.cells #[.string (nick rp.1), .string (pfield rp.1), .slice a7 (subs rp.1).length c7] 95)).heap.size := HAa.out.size
          have HOW := hidI HLa.out.row
          clear HPQ HPK HPZ HRZ HFZ HAZ HL1 HA1
          go_wp2_with (at_builtin; refine wpList_append_any _ rfl _ _ 85 rfl w.heap.size 95 i0 _ 3 56 Try.underlying85 hi0 hz0 hz1 hz2 rfl (by decide) _ acc.length _ rfl HOW.out (some ⟨X7.heap.size, 0, none⟩) 1 1 (pickL rp.1 (.slice a7 (subs rp.1).length c7)) rfl rfl (alloc_news X7 #[.string (nick rp.1), .string (pfield rp.1), .slice a7 (subs rp.1).length c7] _) (fun h => by cases h) (by intro u hu; simp [pickL] at hu; rcases hu with rfl | rfl | rfl <;> rfl) (by unfold maxLen; omega) (by omega) hNa ?_)
          intro v' w9 hown hgr hvb
          have HL9 := hidI (HLa.out.app hC s0 s1 HFa.out hw1 (fun k' hk' => (HVQ.out k' hk').1) hown hgr (by simpa using hvb))
          have HR9 : Hid (WBox w9 b s rp.2.1 rp.2.2 0 0) := (hgr.block b HRa.out.lt (fun e => by have := (HVQ.out b e.symm).2; omega)).trans HRa.out
          have HA9 : Hid (Away b w w9) := ⟨hgr.os.trans HAa.out.os, hgr.tape.trans HAa.out.tape, hgr.output.trans HAa.out.output, Nat.le_trans HAa.out.size hgr.size, fun k' hk' hb' => (hgr.block k' (Nat.lt_of_lt_of_le hk' HAa.out.size) (fun e => by have := (HVQ.out k' e.symm).2; omega)).trans (HAa.out.block k' hk' hb')⟩
          have hal : (acc ++ [rp.1]).length ≤ rp.2.2 := by rw [List.length_append]; show acc.length + 1 ≤ rp.2.2; omega
          have HAL := hidI hal
          clear hown hgr hvb HOW HLa HFa HRa HAa HVQ hal
          go_wp2_with fail
          go_roundw
          case rel => exact .inl ⟨acc ++ [rp.1], _, rp.2.1, rp.2.2, g2, g3, HAL.out, HR9.out, HL9.out, HP4, HA9.out⟩
          case measure => rw [HR9.out.meas, HME.out]; omega

theorem rlist_any : ∀ d, RListOk d
  | 0 => rlist_zero
  | d + 1 => rlist_succ d (rlist_any d)
end Go.Proofs.Ytjjggefmmeminaa
