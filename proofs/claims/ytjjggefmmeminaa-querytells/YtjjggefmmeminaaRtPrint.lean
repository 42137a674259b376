/-
  The contracts of stitchref4.Text and Print.
-/
import Derived.Test.YtjjggefmmeminaaQtPrint
import Derived.Test.YtjjggefmmeminaaRyWrong
namespace Go.Proofs.Ytjjggefmmeminaa
open Go.RowKit Go.Sort Go.PlainAid

theorem joinB_up (l : List ByteArray) (x : ByteArray) : (joinB l).size ≤ (joinB (l ++ [x])).size := by
  by_cases h : l = []
  · subst h; rw [joinB_nil]; exact Nat.zero_le _
  · rw [joinB_snoc l x h, size_app, size_app]; omega
theorem joinB_takes (l : List ByteArray) (k : Nat) : ∀ m, (joinB (l.take k)).size ≤ (joinB (l.take (k + m))).size
  | 0 => Nat.le_refl _
  | m + 1 => Nat.le_trans (joinB_takes l k m) (by
      rw [show k + (m + 1) = k + m + 1 by omega, List.take_add_one]
      cases h : l[k + m]? with
      | none => simp
      | some x => exact joinB_up _ x)
theorem joinB_take (l : List ByteArray) (k : Nat) : (joinB (l.take k)).size ≤ (joinB l).size := by
  have h := joinB_takes l k l.length
  rwa [List.take_of_length_le (show l.length ≤ k + l.length by omega)] at h
theorem tN_some {l : List ByteArray} {k : Nat} (h : k < l.length) : l[k]? = some (tN l k) := by
  rw [List.getElem?_eq_getElem h, tN_get (List.getElem?_eq_getElem h)]
theorem joinB_next {l : List ByteArray} {k : Nat} (h : k < l.length) : joinB (l.take (k + 1)) = if k = 0 then tN l k else joinB (l.take k) ++ ⟨#[32]⟩ ++ tN l k := by
  rw [List.take_add_one, tN_some h]
  show joinB (l.take k ++ [tN l k]) = _
  by_cases h0 : k = 0
  · subst h0; rw [if_pos rfl]; exact joinB_one _
  · rw [if_neg h0]
    exact joinB_snoc _ _ (fun e => by
      have h2 : (l.take k).length = 0 := by rw [e]; rfl
      rw [List.length_take, Nat.min_eq_left (by omega)] at h2
      exact h0 h2)

def RTextOk (d : Nat) : Prop := ∀ (a : Option Addr) (cap : Nat) (L : List (Pick d)) (w : World), PicksAt w d a L → L.length ≤ cap → (textL d L).size ≤ 100000 →
    Calls Try.prog 97 #[.slice a L.length cap] w fun e w' => e = .returned (.string (textL d L)) ∧ Below w.heap.size w w'

set_option maxRecDepth 100000 in
set_option maxHeartbeats 4000000 in
theorem rtext_of (d : Nat) (hp : ∀ d', d = d' + 1 → RTextOk d') : RTextOk d := by
  intro a cap L w hP hcap hz
  have hn : L.length ≤ 9223372036854775807 := hP.max
  have HP := hidI hP
  clear hP
  have HF : Hid (∃ l : List ByteArray, textL d L = ⟨#[123]⟩ ++ joinB l ++ ⟨#[125]⟩ ∧ (joinB l).size ≤ 100000 ∧ l.length = L.length ∧ ∀ d' (e : d = d' + 1) (i : Nat), i < L.length → tN l i = textP (textL d') (pickN (e ▸ L : List (Pick (d' + 1))) i)) := by
    cases d with
    | zero => exact ⟨[], rfl, by rw [joinB_nil]; exact Nat.zero_le _, by rw [nil0 L]; rfl, fun d' e => by omega⟩
    | succ d =>
      refine ⟨L.map (textP (textL d)), rfl, by rw [textL_succ, size_app, size_app] at hz; omega, by simp, fun d' e i hi => ?_⟩
      cases e
      exact tN_get (by rw [pickN_get hi]; simp [hi])
  obtain ⟨l, hl1, hl2, hl3, hl4⟩ := HF
  have HL4 := hidI hl4
  have HR := hidI hl1
  have HL3 := hidI hl3
  clear hl1 hl4 hl3
  go_enter Try.func97, Try.ntmps97
  go_wp2_with fail
  go_loopw [3, 8] (fun v i wr => ∃ (k : Nat) (sv : ByteArray), k ≤ L.length ∧ i = .int .i64 k ∧ v = .string sv ∧ Hid (sv = ⟨#[123]⟩ ++ joinB (l.take k)) ∧ Below w.heap.size w wr) (fun _ i _ => L.length - (intOf i).toNat)
  case atStart => exact ⟨0, ⟨#[123]⟩, Nat.zero_le _, rfl, rfl, rfl, Below.refl _ _⟩
  case round =>
    obtain ⟨k, sv, hk, rfl, rfl, HSV, hBr⟩ := hrel
    have hsvz : sv.size ≤ 100001 := by
      rw [HSV.out, size_app]
      have := joinB_take l k
      show 1 + _ ≤ _
      omega
    by_cases hlt : k < L.length
    · cases d with
      | zero => exact absurd hlt (by rw [nil0 L]; exact Nat.not_lt_zero _)
      | succ d =>
      obtain ⟨b, o, A, C, ha, c0, c1, c2, hC, s0, s1, hs⟩ := (HP.out.kept hBr).2 k hlt
      subst ha
      have hlt' : (k : Int) < (L.length : Int) := by omega
      have hk0 : (0 : Int) ≤ (k : Int) := by omega
      have HX : Hid (tN l k = textP (textL d) (pickN L k)) := HL4.out d rfl k hlt
      have HN : Hid (joinB (l.take (k + 1)) = if k = 0 then tN l k else joinB (l.take k) ++ ⟨#[32]⟩ ++ tN l k) := joinB_next (by have := HL3.out; omega)
      have htz : (textP (textL d) (pickN L k)).size ≤ 100000 := Nat.le_trans (textL_part hlt) hz
      have HTP : Hid (textP (textL d) (pickN L k) = if (subs (pickN L k)).isEmpty then (if emp (nick (pickN L k)) then pfield (pickN L k) else nick (pickN L k) ++ ⟨#[58]⟩ ++ pfield (pickN L k)) else (if emp (nick (pickN L k)) then pfield (pickN L k) else nick (pickN L k) ++ ⟨#[58]⟩ ++ pfield (pickN L k)) ++ textL d (subs (pickN L k))) := rfl
      have HTS : Hid ((subs (pickN L k)).isEmpty = false → (textL d (subs (pickN L k))).size ≤ 100000) := fun h => Nat.le_trans (textP_sub h) htz
      have hee := emp_eq (nick (pickN L k))
      generalize hV : wr.alloc (Obj.cells #[.string (nick (pickN L k)), .string (pfield (pickN L k)), .slice A (subs (pickN L k)).length C] 95) = V
      have hBV : Below wr.heap.size wr V := by rw [← hV]; exact below1 _ _
      have v0 : V.cell? ⟨wr.heap.size, 0, none⟩ = some (.string (nick (pickN L k))) := by rw [← hV, World.cell?_alloc_at _ _ _ _ rfl]; rfl
      have v1 : V.cell? ⟨wr.heap.size, 1, none⟩ = some (.string (pfield (pickN L k))) := by rw [← hV, World.cell?_alloc_at _ _ _ _ rfl]; rfl
      have v2 : V.cell? ⟨wr.heap.size, 2, none⟩ = some (.slice A (subs (pickN L k)).length C) := by rw [← hV, World.cell?_alloc_at _ _ _ _ rfl]; rfl
      have HCL : Hid ((textL d (subs (pickN L k))).size ≤ 100000 → Calls Try.prog 97 #[.slice A (subs (pickN L k)).length C] V fun e w' => e = .returned (.string (textL d (subs (pickN L k)))) ∧ Below V.heap.size V w') := fun h => hp d rfl A C _ V (hs.kept hBV) hC h
      have HBV : Hid (Below w.heap.size w V) := hBr.trans (hBV.mono hBr.size)
      have hpl : 0 ≤ ((subs (pickN L k)).length : Int) := by omega
      clear hs hBV hBr s0 s1
      rw [HX.out] at HN
      clear HX
      have hfz : (nick (pickN L k)).size ≤ 100000 ∧ (pfield (pickN L k)).size ≤ 100000 := by
        rw [HTP.out] at htz
        have hbase : (if emp (nick (pickN L k)) then pfield (pickN L k) else nick (pickN L k) ++ ⟨#[58]⟩ ++ pfield (pickN L k)).size ≤ 100000 := by
          by_cases h : (subs (pickN L k)).isEmpty = true
          · rw [if_pos h] at htz; exact htz
          · rw [if_neg h, size_app] at htz; omega
        cases he : emp (nick (pickN L k)) with
        | true =>
          rw [he] at hbase
          have hb2 : (pfield (pickN L k)).size ≤ 100000 := hbase
          have : (nick (pickN L k)).size = 0 := by unfold emp at he; simpa using he
          omega
        | false =>
          rw [he] at hbase
          have hb2 : (nick (pickN L k) ++ ⟨#[58]⟩ ++ pfield (pickN L k)).size ≤ 100000 := hbase
          rw [size_app, size_app] at hb2; omega
      have HSE : Hid ((subs (pickN L k)).isEmpty = decide ((subs (pickN L k)).length = 0)) := by
        refine hidI ?_
        cases h : (subs (pickN L k)).isEmpty with
        | true => rw [List.isEmpty_iff.1 h]; rfl
        | false => exact (decide_eq_false (fun e => by rw [List.eq_nil_of_length_eq_zero e] at h; cases h)).symm
      generalize textP (textL d) (pickN L k) = tp at *
      generalize nick (pickN L k) = nk at *
      generalize pfield (pickN L k) = pf at *
      generalize textL d (subs (pickN L k)) = tl at *
      generalize hsl : (subs (pickN L k)).length = sl at *
      generalize (subs (pickN L k)).isEmpty = se at *
      obtain ⟨hnz, hfz'⟩ := hfz
      clear hsl htz
      by_cases hk00 : k = 0
      · have hkk : ¬ (0 : Int) < (k : Int) := by omega
        rw [if_pos hk00] at HN
        have HSV0 : Hid (sv = ⟨#[123]⟩) := by rw [HSV.out, hk00]; rfl
        clear hk00
        cases he : emp nk with
        | true =>
          rw [he] at hee HTP
          clear he
          have a3 : ∀ w, (Op.stringOp .add sv pf).run Try.prog w = .ok (.string (sv ++ pf)) w := fun w => run_string_add_sum w _ _ (by omega)
          have hz3 : (sv ++ pf).size ≤ 500000 := by rw [size_app]; omega
          cases hse : se with
          | true =>
            rw [hse] at HTP
            have hs0 : sl = 0 := by have := HSE.out; rw [hse] at this; simpa using this.symm
            have hs1 : ¬ (0 : Int) < (sl : Int) := by omega
            have HSN : Hid ((sv ++ pf) = ⟨#[123]⟩ ++ joinB (l.take (k + 1))) := by
              refine hidI ?_
              have e1 : tp = _ := HTP.out
              rw [HN.out, e1, HSV0.out]
              rfl
            clear hse hs0 HSE HTP HN HCL HSV HTS hz3
            go_wp2_with fail
            clear hV c0 c1 c2
            go_roundw
            case rel => exact ⟨k + 1, _, by omega, by go_num, rfl, HSN, HBV.out⟩
            case measure => simp [intOf]; omega
          | false =>
            rw [hse] at HTP
            have hs0 : sl ≠ 0 := by have := HSE.out; rw [hse] at this; simpa using this.symm
            have hs1 : (0 : Int) < (sl : Int) := by omega
            have htl := HTS.out hse
            have hcl := HCL.out htl
            have a4 : ∀ w, (Op.stringOp .add (sv ++ pf) tl).run Try.prog w = .ok (.string ((sv ++ pf) ++ tl)) w := fun w => run_string_add_sum w _ _ (by omega)
            have HSN : Hid ((sv ++ pf) ++ tl = ⟨#[123]⟩ ++ joinB (l.take (k + 1))) := by
              refine hidI ?_
              have e1 : tp = _ := HTP.out
              rw [HN.out, e1, HSV0.out]
              simp [ByteArray.append_assoc]
            clear hse hs0 HSE HTP HN HCL HSV HTS hz3 htl
            go_wp2_with fail
            clear hV c0 c1 c2
            refine hcl.mono ?_
            clear hcl
            rintro e w1 ⟨rfl, hw1⟩
            have HB1 : Hid (Below w.heap.size w w1) := HBV.out.trans (hw1.mono HBV.out.size)
            clear hw1
            go_wp2_with fail
            go_roundw
            case rel => exact ⟨k + 1, _, by omega, by go_num, rfl, HSN, HB1.out⟩
            case measure => simp [intOf]; omega
        | false =>
          rw [he] at hee HTP
          clear he
          have a1 : ∀ w, (Op.stringOp .add sv nk).run Try.prog w = .ok (.string (sv ++ nk)) w := fun w => run_string_add_sum w _ _ (by omega)
          have hz1 : (sv ++ nk).size ≤ 300000 := by rw [size_app]; omega
          have a2 : ∀ w, (Op.stringOp .add (sv ++ nk) ⟨#[58]⟩).run Try.prog w = .ok (.string (sv ++ nk ++ ⟨#[58]⟩)) w := fun w => run_string_add_sum w _ _ (by show _ + 1 ≤ _; omega)
          have hz2 : (sv ++ nk ++ ⟨#[58]⟩).size ≤ 300001 := by rw [size_app]; show _ + 1 ≤ _; omega
          have a3 : ∀ w, (Op.stringOp .add (sv ++ nk ++ ⟨#[58]⟩) pf).run Try.prog w = .ok (.string ((sv ++ nk ++ ⟨#[58]⟩) ++ pf)) w := fun w => run_string_add_sum w _ _ (by omega)
          have hz3 : ((sv ++ nk ++ ⟨#[58]⟩) ++ pf).size ≤ 500000 := by rw [size_app]; omega
          cases hse : se with
          | true =>
            rw [hse] at HTP
            have hs0 : sl = 0 := by have := HSE.out; rw [hse] at this; simpa using this.symm
            have hs1 : ¬ (0 : Int) < (sl : Int) := by omega
            have HSN : Hid (((sv ++ nk ++ ⟨#[58]⟩) ++ pf) = ⟨#[123]⟩ ++ joinB (l.take (k + 1))) := by
              refine hidI ?_
              have e1 : tp = _ := HTP.out
              rw [HN.out, e1, HSV0.out]
              simp [ByteArray.append_assoc]
            clear hse hs0 HSE HTP HN HCL HSV HTS hz3
            go_wp2_with fail
            clear hV c0 c1 c2
            go_roundw
            case rel => exact ⟨k + 1, _, by omega, by go_num, rfl, HSN, HBV.out⟩
            case measure => simp [intOf]; omega
          | false =>
            rw [hse] at HTP
            have hs0 : sl ≠ 0 := by have := HSE.out; rw [hse] at this; simpa using this.symm
            have hs1 : (0 : Int) < (sl : Int) := by omega
            have htl := HTS.out hse
            have hcl := HCL.out htl
            have a4 : ∀ w, (Op.stringOp .add ((sv ++ nk ++ ⟨#[58]⟩) ++ pf) tl).run Try.prog w = .ok (.string (((sv ++ nk ++ ⟨#[58]⟩) ++ pf) ++ tl)) w := fun w => run_string_add_sum w _ _ (by omega)
            have HSN : Hid (((sv ++ nk ++ ⟨#[58]⟩) ++ pf) ++ tl = ⟨#[123]⟩ ++ joinB (l.take (k + 1))) := by
              refine hidI ?_
              have e1 : tp = _ := HTP.out
              rw [HN.out, e1, HSV0.out]
              simp [ByteArray.append_assoc]
            clear hse hs0 HSE HTP HN HCL HSV HTS hz3 htl
            go_wp2_with fail
            clear hV c0 c1 c2
            refine hcl.mono ?_
            clear hcl
            rintro e w1 ⟨rfl, hw1⟩
            have HB1 : Hid (Below w.heap.size w w1) := HBV.out.trans (hw1.mono HBV.out.size)
            clear hw1
            go_wp2_with fail
            go_roundw
            case rel => exact ⟨k + 1, _, by omega, by go_num, rfl, HSN, HB1.out⟩
            case measure => simp [intOf]; omega
      · have hkk : (0 : Int) < (k : Int) := by omega
        rw [if_neg hk00] at HN
        have a0 : ∀ w, (Op.stringOp .add sv ⟨#[32]⟩).run Try.prog w = .ok (.string (sv ++ ⟨#[32]⟩)) w := fun w => run_string_add_sum w _ _ (by show sv.size + 1 ≤ _; omega)
        have hz0 : (sv ++ ⟨#[32]⟩).size ≤ 100002 := by rw [size_app]; show sv.size + 1 ≤ _; omega
        clear hk00
        cases he : emp nk with
        | true =>
          rw [he] at hee HTP
          clear he
          have a3 : ∀ w, (Op.stringOp .add (sv ++ ⟨#[32]⟩) pf).run Try.prog w = .ok (.string ((sv ++ ⟨#[32]⟩) ++ pf)) w := fun w => run_string_add_sum w _ _ (by omega)
          have hz3 : ((sv ++ ⟨#[32]⟩) ++ pf).size ≤ 500000 := by rw [size_app]; omega
          cases hse : se with
          | true =>
            rw [hse] at HTP
            have hs0 : sl = 0 := by have := HSE.out; rw [hse] at this; simpa using this.symm
            have hs1 : ¬ (0 : Int) < (sl : Int) := by omega
            have HSN : Hid (((sv ++ ⟨#[32]⟩) ++ pf) = ⟨#[123]⟩ ++ joinB (l.take (k + 1))) := by
              refine hidI ?_
              have e1 : tp = _ := HTP.out
              rw [HN.out, e1, HSV.out]
              simp [ByteArray.append_assoc]
            clear hse hs0 HSE HTP HN HCL HSV HTS hz3
            go_wp2_with fail
            clear hV c0 c1 c2
            go_roundw
            case rel => exact ⟨k + 1, _, by omega, by go_num, rfl, HSN, HBV.out⟩
            case measure => simp [intOf]; omega
          | false =>
            rw [hse] at HTP
            have hs0 : sl ≠ 0 := by have := HSE.out; rw [hse] at this; simpa using this.symm
            have hs1 : (0 : Int) < (sl : Int) := by omega
            have htl := HTS.out hse
            have hcl := HCL.out htl
            have a4 : ∀ w, (Op.stringOp .add ((sv ++ ⟨#[32]⟩) ++ pf) tl).run Try.prog w = .ok (.string (((sv ++ ⟨#[32]⟩) ++ pf) ++ tl)) w := fun w => run_string_add_sum w _ _ (by omega)
            have HSN : Hid (((sv ++ ⟨#[32]⟩) ++ pf) ++ tl = ⟨#[123]⟩ ++ joinB (l.take (k + 1))) := by
              refine hidI ?_
              have e1 : tp = _ := HTP.out
              rw [HN.out, e1, HSV.out]
              simp [ByteArray.append_assoc]
            clear hse hs0 HSE HTP HN HCL HSV HTS hz3 htl
            go_wp2_with fail
            clear hV c0 c1 c2
            refine hcl.mono ?_
            clear hcl
            rintro e w1 ⟨rfl, hw1⟩
            have HB1 : Hid (Below w.heap.size w w1) := HBV.out.trans (hw1.mono HBV.out.size)
            clear hw1
            go_wp2_with fail
            go_roundw
            case rel => exact ⟨k + 1, _, by omega, by go_num, rfl, HSN, HB1.out⟩
            case measure => simp [intOf]; omega
        | false =>
          rw [he] at hee HTP
          clear he
          have a1 : ∀ w, (Op.stringOp .add (sv ++ ⟨#[32]⟩) nk).run Try.prog w = .ok (.string ((sv ++ ⟨#[32]⟩) ++ nk)) w := fun w => run_string_add_sum w _ _ (by omega)
          have hz1 : ((sv ++ ⟨#[32]⟩) ++ nk).size ≤ 300000 := by rw [size_app]; omega
          have a2 : ∀ w, (Op.stringOp .add ((sv ++ ⟨#[32]⟩) ++ nk) ⟨#[58]⟩).run Try.prog w = .ok (.string ((sv ++ ⟨#[32]⟩) ++ nk ++ ⟨#[58]⟩)) w := fun w => run_string_add_sum w _ _ (by show _ + 1 ≤ _; omega)
          have hz2 : ((sv ++ ⟨#[32]⟩) ++ nk ++ ⟨#[58]⟩).size ≤ 300001 := by rw [size_app]; show _ + 1 ≤ _; omega
          have a3 : ∀ w, (Op.stringOp .add ((sv ++ ⟨#[32]⟩) ++ nk ++ ⟨#[58]⟩) pf).run Try.prog w = .ok (.string (((sv ++ ⟨#[32]⟩) ++ nk ++ ⟨#[58]⟩) ++ pf)) w := fun w => run_string_add_sum w _ _ (by omega)
          have hz3 : (((sv ++ ⟨#[32]⟩) ++ nk ++ ⟨#[58]⟩) ++ pf).size ≤ 500000 := by rw [size_app]; omega
          cases hse : se with
          | true =>
            rw [hse] at HTP
            have hs0 : sl = 0 := by have := HSE.out; rw [hse] at this; simpa using this.symm
            have hs1 : ¬ (0 : Int) < (sl : Int) := by omega
            have HSN : Hid ((((sv ++ ⟨#[32]⟩) ++ nk ++ ⟨#[58]⟩) ++ pf) = ⟨#[123]⟩ ++ joinB (l.take (k + 1))) := by
              refine hidI ?_
              have e1 : tp = _ := HTP.out
              rw [HN.out, e1, HSV.out]
              simp [ByteArray.append_assoc]
            clear hse hs0 HSE HTP HN HCL HSV HTS hz3
            go_wp2_with fail
            clear hV c0 c1 c2
            go_roundw
            case rel => exact ⟨k + 1, _, by omega, by go_num, rfl, HSN, HBV.out⟩
            case measure => simp [intOf]; omega
          | false =>
            rw [hse] at HTP
            have hs0 : sl ≠ 0 := by have := HSE.out; rw [hse] at this; simpa using this.symm
            have hs1 : (0 : Int) < (sl : Int) := by omega
            have htl := HTS.out hse
            have hcl := HCL.out htl
            have a4 : ∀ w, (Op.stringOp .add (((sv ++ ⟨#[32]⟩) ++ nk ++ ⟨#[58]⟩) ++ pf) tl).run Try.prog w = .ok (.string ((((sv ++ ⟨#[32]⟩) ++ nk ++ ⟨#[58]⟩) ++ pf) ++ tl)) w := fun w => run_string_add_sum w _ _ (by omega)
            have HSN : Hid ((((sv ++ ⟨#[32]⟩) ++ nk ++ ⟨#[58]⟩) ++ pf) ++ tl = ⟨#[123]⟩ ++ joinB (l.take (k + 1))) := by
              refine hidI ?_
              have e1 : tp = _ := HTP.out
              rw [HN.out, e1, HSV.out]
              simp [ByteArray.append_assoc]
            clear hse hs0 HSE HTP HN HCL HSV HTS hz3 htl
            go_wp2_with fail
            clear hV c0 c1 c2
            refine hcl.mono ?_
            clear hcl
            rintro e w1 ⟨rfl, hw1⟩
            have HB1 : Hid (Below w.heap.size w w1) := HBV.out.trans (hw1.mono HBV.out.size)
            clear hw1
            go_wp2_with fail
            go_roundw
            case rel => exact ⟨k + 1, _, by omega, by go_num, rfl, HSN, HB1.out⟩
            case measure => simp [intOf]; omega
    · have hkn : k = L.length := by omega
      have HBr := hidI hBr
      have HR2 : Hid (textL d L = sv ++ ⟨#[125]⟩) := by
        rw [HR.out, HSV.out, List.take_of_length_le (show l.length ≤ k by have := HL3.out; omega)]; rfl
      have a5 : ∀ w, (Op.stringOp .add sv ⟨#[125]⟩).run Try.prog w = .ok (.string (sv ++ ⟨#[125]⟩)) w := fun w => run_string_add_sum w _ _ (by show sv.size + 1 ≤ _; omega)
      have hlt0 : ¬ (k : Int) < (L.length : Int) := by omega
      clear hkn hBr hlt HSV
      go_wp2_with fail
      go_ret
      exact ⟨by rw [HR2.out]; rfl, HBr.out⟩
theorem rtext_any : ∀ d, RTextOk d
  | 0 => rtext_of 0 (fun _ h => by omega)
  | d + 1 => rtext_of (d + 1) (fun d' h => by cases h; exact rtext_any d)

set_option maxRecDepth 100000 in
set_option maxHeartbeats 1000000 in
theorem rprint_any (d : Nat) (type key : ByteArray) (a : Option Addr) (cap : Nat) (L : List (Pick d)) (w : World) (hP : PicksAt w d a L) (hcap : L.length ≤ cap) (hs0 : Small type) (hs1 : Small key) :
    Calls Try.prog 48 #[.agg #[.string type, .string key, .slice a L.length cap]] w fun e w' => e = .returned (.tuple #[.string (printA d type key L).1, .int .i64 (printA d type key L).2]) ∧ Below w.heap.size w w' := by
  generalize hW : w.alloc (Obj.cells #[.string type, .string key, .slice a L.length cap] 87) = W
  have hBW : Below w.heap.size w W := by rw [← hW]; exact below1 _ _
  have hbx : W.heap[w.heap.size]? = some (.cells #[.string type, .string key, .slice a L.length cap] 87 (0, 0)) := by rw [← hW]; exact heap_alloc_new _ _
  have c0 : W.cell? ⟨w.heap.size, 0, none⟩ = some (.string type) := by simp [World.cell?, hbx]
  have c1 : W.cell? ⟨w.heap.size, 1, none⟩ = some (.string key) := by simp [World.cell?, hbx]
  have c2 : W.cell? ⟨w.heap.size, 2, none⟩ = some (.slice a L.length cap) := by simp [World.cell?, hbx]
  have hcl := rwrong_any d type key a cap L W (hP.kept hBW) hs0 hs1
  have HP := hidI hP
  have HBW := hidI hBW
  have HE : Hid (printA d type key L = if wA d type key L ≠ 0 then (⟨#[]⟩, wA d type key L) else if 1000 < (textA d type key L).size then (⟨#[]⟩, 3) else (textA d type key L, 0)) := rfl
  have HTR : Hid (wA d type key L = 0 → (textL d L).size ≤ 100000 ∧ type.size ≤ 12 ∧ key.size ≤ 12) := text_right
  clear hP hbx hBW
  generalize wA d type key L = r at *
  go_enter Try.func48, Try.ntmps48
  go_wp2_with fail
  clear hW
  refine hcl.mono ?_
  clear hcl
  rintro e w1 ⟨rfl, hw1⟩
  have c0 := keptCell hw1 c0
  have c1 := keptCell hw1 c1
  have c2 := keptCell hw1 c2
  have HB1 : Hid (Below w.heap.size w w1) := HBW.out.trans (hw1.mono HBW.out.size)
  clear hw1 HBW
  by_cases hr : r = 0
  case neg =>
    have hr' : (r != 0) = true := by simpa using hr
    have HR : Hid (printA d type key L = (⟨#[]⟩, r)) := by rw [HE.out, if_pos hr]; rfl
    clear hr HE
    go_wp2_with fail
    go_ret2
    exact ⟨by rw [HR.out]; rfl, HB1.out⟩
  have hr' : (r != 0) = false := by simpa using hr
  obtain ⟨hz, ht12, hk12⟩ := HTR.out hr
  rw [if_neg (by simp [hr])] at HE
  have ha1 : ∀ w, (Op.stringOp .add type ⟨#[40]⟩).run Try.prog w = .ok (.string (type ++ ⟨#[40]⟩)) w := fun w => run_string_add_sum w _ _ (by show type.size + 1 ≤ _; omega)
  have ha2 : ∀ w, (Op.stringOp .add (type ++ ⟨#[40]⟩) key).run Try.prog w = .ok (.string (type ++ ⟨#[40]⟩ ++ key)) w := fun w => run_string_add_sum w _ _ (by rw [size_app]; show type.size + 1 + _ ≤ _; omega)
  have ha3 : ∀ w, (Op.stringOp .add (type ++ ⟨#[40]⟩ ++ key) ⟨#[41]⟩).run Try.prog w = .ok (.string (type ++ ⟨#[40]⟩ ++ key ++ ⟨#[41]⟩)) w := fun w => run_string_add_sum w _ _ (by rw [size_app, size_app]; show type.size + 1 + key.size + 1 ≤ _; omega)
  have ha4 : ∀ w, (Op.stringOp .add (type ++ ⟨#[40]⟩ ++ key ++ ⟨#[41]⟩) (textL d L)).run Try.prog w = .ok (.string (textA d type key L)) w := fun w => run_string_add_sum w _ _ (by rw [size_app, size_app, size_app]; show type.size + 1 + key.size + 1 + _ ≤ _; omega)
  have d0 := cell_regrown c0
  have d1 := cell_regrown c1
  have d2 := cell_regrown c2
  have cT : ∀ d' os, Calls Try.prog 97 #[.slice a L.length cap] (grow (redrawn w1 d') os) fun e w'' => e = .returned (.string (textL d L)) ∧ ∃ r : Regrown, w'' = grow (redrawn w1 r.d) r.os := fun d' os => Calls.regrown_of (rtext_any d a cap L _ ((HP.out.kept HB1.out).kept (below_regrown w1 d' os)) hcap hz)
  clear hr hz ht12 hk12 HTR c0 c1 c2
  generalize textL d L = tl at *
  generalize textA d type key L = ta at *
  go_wp2_with fail
  refine wp_region_quiet_below (by kernel_rfl) (by kernel_rfl) ?_
  repeat (go_big_quiet_step (first | exact cT _ _))
  refine wpQuiet_nil ?_
  intro _ hw'
  obtain ⟨⟨dq, osq⟩, hw''⟩ := hw'
  subst hw''
  have hB2 := below_regrown w1 dq osq
  have HB2 : Hid (Below w.heap.size w (grow (redrawn w1 dq) osq)) := HB1.out.trans (hB2.mono HB1.out.size)
  clear hB2 cT d0 d1 d2 HB1
  by_cases h1000 : 1000 < ta.size
  · have h1000' : (1000 : Int) < (ta.size : Int) := by omega
    have HR : Hid (printA d type key L = (⟨#[]⟩, 3)) := by rw [HE.out, if_pos h1000]; rfl
    clear h1000 HE
    go_wp2_with fail
    go_ret2
    exact ⟨by rw [HR.out]; rfl, HB2.out⟩
  · have h1000' : ¬ (1000 : Int) < (ta.size : Int) := by omega
    have HR : Hid (printA d type key L = (ta, 0)) := by rw [HE.out, if_neg h1000]; rfl
    clear h1000 HE
    go_wp2_with fail
    go_ret2
    exact ⟨by rw [HR.out]; rfl, HB2.out⟩
end Go.Proofs.Ytjjggefmmeminaa
