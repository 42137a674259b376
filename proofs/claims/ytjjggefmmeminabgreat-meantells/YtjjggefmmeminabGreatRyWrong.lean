import Derived.Test.YtjjggefmmeminabGreatJQy
import Derived.Test.YtjjggefmmeminabGreatJRe
import Derived.Handy
import Derived.Laws.NewBlocks
/-
  The contracts of stitchref4.Shape and Wrong: what is wrong with what is asked.
-/
namespace Go.Proofs.YtjjggefmmeminabGreat
open Go.RowKit Go.Sort Go.PlainAid

def ShapeOk (d : Nat) : Prop := ∀ (a : Option Addr) (cap : Nat) (L : List (Pick d)) (deep cnt : Nat) (w : World), PicksAt w d a L → cnt ≤ 60 → deep ≤ 9 →
    Calls Tryz.prog 76 #[.slice a L.length cap, .int .i64 (deep : Int), .int .i64 (cnt : Int)] w fun e w' => e = .returned (.tuple #[.int .i64 (wL d deep cnt L).1, .int .i64 ((wL d deep cnt L).2 : Int)]) ∧ Below w.heap.size w w'

set_option maxRecDepth 100000 in
set_option maxHeartbeats 2000000 in
theorem shape_of (d : Nat) (hp : ∀ d', d = d' + 1 → ShapeOk d') : ShapeOk d := by
  intro a cap L deep cnt w hP hcnt hdeep
  have hn : L.length ≤ 9223372036854775807 := hP.max
  have HP := hidI hP
  clear hP
  by_cases h8 : 8 < deep
  · have HF : Hid (wL d deep cnt L = (3, cnt)) := by unfold wL; rw [if_pos h8]; rfl
    have h8' : (8 : Int) < (deep : Int) := by omega
    go_enter Tryz.func76, Tryz.ntmps76
    go_wp2_with fail
    go_ret2
    exact ⟨by rw [HF.out]; rfl, Below.refl _ _⟩
  have h8' : ¬ (8 : Int) < (deep : Int) := by omega
  by_cases h0 : L.length = 0
  · have HF : Hid (wL d deep cnt L = (4, cnt)) := by unfold wL; rw [if_neg h8, if_pos (by rw [List.isEmpty_iff]; exact List.eq_nil_of_length_eq_zero h0)]; rfl
    have h0' : ((L.length : Int) == 0) = true := by rw [beq_iff_eq]; omega
    clear h0
    go_enter Tryz.func76, Tryz.ntmps76
    go_wp2_with fail
    go_ret2
    exact ⟨by rw [HF.out]; rfl, Below.refl _ _⟩
  have h0' : ((L.length : Int) == 0) = false := by rw [beq_eq_false_iff_ne]; omega
  cases d with
  | zero => exact absurd (by rw [nil0 L]; rfl) h0
  | succ d =>
  have HQ := hidI (hp d rfl)
  have HF : Hid (wL (d + 1) deep cnt L = wR (d + 1) deep cnt L) := by
    unfold wL; rw [if_neg h8, if_neg (fun h => h0 (by rw [List.isEmpty_iff.1 h]; rfl))]; rfl
  clear hp h0
  go_enter Tryz.func76, Tryz.ntmps76
  go_wp2_with fail
  go_loopw [2, 20] (fun v i wr => ∃ k c : Nat, k ≤ L.length ∧ i = .int .i64 k ∧ v = .int .i64 c ∧ c ≤ 60 ∧ Hid (wR (d + 1) deep cnt L = wR (d + 1) deep c (L.drop k)) ∧ Below w.heap.size w wr) (fun _ i _ => L.length - (intOf i).toNat)
  case atStart => exact ⟨0, cnt, Nat.zero_le _, rfl, rfl, hcnt, rfl, Below.refl _ _⟩
  case round =>
    obtain ⟨k, c, hk, rfl, rfl, hc, HR, hBr⟩ := hrel
    by_cases hlt : k < L.length
    · obtain ⟨b, o, A, C, ha, c0, c1, c2, hC, s0, s1, hs⟩ := (HP.out.kept hBr).2 k hlt
      subst ha
      have hlt' : (k : Int) < (L.length : Int) := by omega
      have hk0 : (0 : Int) ≤ (k : Int) := by omega
      generalize hV : wr.alloc (Obj.cells #[.string (nick (pickN L k)), .string (pfield (pickN L k)), .slice A (subs (pickN L k)).length C] 72) = V
      have hBV : Below wr.heap.size wr V := by rw [← hV]; exact below1 _ _
      have v0 : V.cell? ⟨wr.heap.size, 0, none⟩ = some (.string (nick (pickN L k))) := by rw [← hV, World.cell?_alloc_at _ _ _ _ rfl]; rfl
      have v1 : V.cell? ⟨wr.heap.size, 1, none⟩ = some (.string (pfield (pickN L k))) := by rw [← hV, World.cell?_alloc_at _ _ _ _ rfl]; rfl
      have v2 : V.cell? ⟨wr.heap.size, 2, none⟩ = some (.slice A (subs (pickN L k)).length C) := by rw [← hV, World.cell?_alloc_at _ _ _ _ rfl]; rfl
      have HD : Hid (wR (d + 1) deep c (L.drop k) = if (wP d deep c (pickN L k)).1 ≠ 0 then wP d deep c (pickN L k) else wR (d + 1) deep (wP d deep c (pickN L k)).2 (L.drop (k + 1))) := by rw [drop_pick hlt, wR_cons]; rfl
      have HE : Hid (wP d deep c (pickN L k) = if 60 < c + 1 then (4, c + 1) else if badName (pickN L k) then (6, c + 1) else if (subs (pickN L k)).isEmpty then (0, c + 1) else wL d (deep + 1) (c + 1) (subs (pickN L k))) := rfl
      have HBAD : Hid ((wP d deep c (pickN L k)).1 ≠ 0 → wL (d + 1) deep cnt L = wP d deep c (pickN L k)) := fun h => by rw [HF.out, HR.out, HD.out, if_pos h]
      have HGO : Hid ((wP d deep c (pickN L k)).1 = 0 → wR (d + 1) deep cnt L = wR (d + 1) deep (wP d deep c (pickN L k)).2 (L.drop (k + 1))) := fun h => by rw [HR.out, HD.out, if_neg (by simp [h])]
      have HBV : Hid (Below w.heap.size w V) := hBr.trans (hBV.mono hBr.size)
      have HS : Hid (PicksAt V d A (subs (pickN L k))) := hs.kept hBV
      clear hBr hBV hs hC HD HR
      generalize pickN L k = p at *
      by_cases h60 : 60 < c + 1
      · have h60' : (60 : Int) < (c : Int) + 1 := by omega
        have HP1 : Hid (wP d deep c p = (4, c + 1)) := by rw [HE.out, if_pos h60]; rfl
        have HFIN : Hid (wL (d + 1) deep cnt L = (4, c + 1)) := by
          have h := HP1.out
          have h2 := HBAD.out (by rw [h]; exact (by decide : (4 : Int) ≠ 0))
          rw [h] at h2; exact h2
        clear h60
        go_wp2_with fail
        go_ret2
        exact ⟨by rw [HFIN.out]; rfl, HBV.out⟩
      have h60' : ¬ (60 : Int) < (c : Int) + 1 := by omega
      rw [if_neg h60] at HE
      have hcl := refNamed_any (pfield p) V s1
      go_wp2_with fail
      clear hV c0 c1 c2
      refine hcl.mono ?_
      clear hcl v1
      rintro e w1 ⟨rfl, hw1⟩
      have v0 := keptCell hw1 v0
      have v2 := keptCell hw1 v2
      have HB1 : Hid (Below w.heap.size w w1) := HBV.out.trans (hw1.mono HBV.out.size)
      have HS1 := hidI (HS.out.kept hw1)
      clear hw1 HBV HS
      have H6 : Hid (badName p = true → wL (d + 1) deep cnt L = (6, c + 1)) := fun h => by
        have e : wP d deep c p = (6, c + 1) := by rw [HE.out, if_pos h]
        rw [HBAD.out (by rw [e]; exact (by decide : (6 : Int) ≠ 0)), e]
      have H0 : Hid (badName p = false → (subs p).length = 0 → wR (d + 1) deep cnt L = wR (d + 1) deep (c + 1) (L.drop (k + 1))) := fun h hz => by
        have e : wP d deep c p = (0, c + 1) := by rw [HE.out, if_neg (by rw [h]; decide), if_pos (by rw [List.isEmpty_iff]; exact List.eq_nil_of_length_eq_zero hz)]
        have h2 := HGO.out (by rw [e])
        rw [e] at h2; exact h2
      have HL : Hid (badName p = false → (subs p).length ≠ 0 → wP d deep c p = wL d (deep + 1) (c + 1) (subs p)) := fun h hz => by
        rw [HE.out, if_neg (by rw [h]; decide), if_neg (fun h => hz (by rw [List.isEmpty_iff.1 h]; rfl))]
      have hee := emp_eq (nick p)
      have HLE := hidI (wP_le d deep c p hc)
      -- behind the names
      have HEND : Hid (∀ w2, badName p = false → Below w1.heap.size w1 w2 → (subs p).length ≠ 0 → Calls Tryz.prog 76 #[.slice A (subs p).length C, .int .i64 ((deep : Int) + 1), .int .i64 ((c : Int) + 1)] w2 fun e w' => e = .returned (.tuple #[.int .i64 (wP d deep c p).1, .int .i64 ((wP d deep c p).2 : Int)]) ∧ Below w.heap.size w w') := fun w2 h h2 hz => by
        rw [HL.out h hz]
        exact (HQ.out A C (subs p) (deep + 1) (c + 1) w2 (HS1.out.kept h2) (by omega) (by omega)).mono fun e w' hh => ⟨hh.1, HB1.out.trans ((h2.trans (hh.2.mono h2.size)).mono HB1.out.size)⟩
      clear HE HL
      cases hn1 : named (pfield p) with
      | false =>
        have HFIN := hidI (H6.out (by unfold badName; rw [hn1]; rfl))
        clear hn1
        go_wp2_with fail
        go_ret2
        exact ⟨by rw [HFIN.out]; rfl, HB1.out⟩
      | true =>
        cases he : emp (nick p) with
        | true =>
          have hbn : badName p = false := by unfold badName; rw [hn1, he]; rfl
          rw [he] at hee
          by_cases hz : (subs p).length = 0
          · have HR2 := hidI (H0.out hbn hz)
            have hc1 : c + 1 ≤ 60 := by omega
            clear hbn hn1 he
            go_wp2_with fail
            go_roundw
            case rel => exact ⟨k + 1, c + 1, by omega, by go_num, by go_num, hc1, HR2, HB1.out⟩
            case measure => simp [intOf]; omega
          · have hcl := HEND.out w1 hbn (Below.refl _ _) hz
            have hz' : 0 < ((subs p).length : Int) := by omega
            clear hbn hn1 he hz HEND H0 H6
            generalize wP d deep c p = r at *
            go_wp2_with fail
            refine hcl.mono ?_
            clear hcl
            rintro e w2 ⟨rfl, hw2⟩
            by_cases hr : r.1 = 0
            · have hr' : (r.1 != 0) = false := by simpa using hr
              have HR2 := hidI (HGO.out hr)
              have hr60 := HLE.out.2 hr
              clear hr
              go_wp2_with fail
              go_roundw
              case rel => exact ⟨k + 1, r.2, by omega, by go_num, rfl, hr60, HR2, hw2⟩
              case measure => simp [intOf]; omega
            · have hr' : (r.1 != 0) = true := by simpa using hr
              have HFIN := hidI (HBAD.out hr)
              clear hr
              go_wp2_with fail
              go_ret2
              exact ⟨by rw [HFIN.out]; rfl, hw2⟩
        | false =>
          rw [he] at hee
          have hcl := refNamed_any (nick p) w1 s0
          go_wp2_with fail
          refine hcl.mono ?_
          clear hcl
          rintro e w2 ⟨rfl, hw2⟩
          have v2 := keptCell hw2 v2
          have HB2 : Hid (Below w.heap.size w w2) := HB1.out.trans (hw2.mono HB1.out.size)
          have HW2 := hidI hw2
          clear hw2
          cases hn2 : named (nick p) with
          | false =>
            have HFIN := hidI (H6.out (by unfold badName; rw [hn1, hn2, he]; rfl))
            clear hn1 hn2 he
            go_wp2_with fail
            go_ret2
            exact ⟨by rw [HFIN.out]; rfl, HB2.out⟩
          | true =>
            have hbn : badName p = false := by unfold badName; rw [hn1, hn2]; simp
            by_cases hz : (subs p).length = 0
            · have HR2 := hidI (H0.out hbn hz)
              have hc1 : c + 1 ≤ 60 := by omega
              clear hbn hn1 hn2 he
              go_wp2_with fail
              go_roundw
              case rel => exact ⟨k + 1, c + 1, by omega, by go_num, by go_num, hc1, HR2, HB2.out⟩
              case measure => simp [intOf]; omega
            · have hcl := HEND.out w2 hbn HW2.out hz
              have hz' : 0 < ((subs p).length : Int) := by omega
              clear hbn hn1 hn2 he hz HEND H0 H6
              generalize wP d deep c p = r at *
              go_wp2_with fail
              refine hcl.mono ?_
              clear hcl
              rintro e w3 ⟨rfl, hw3⟩
              by_cases hr : r.1 = 0
              · have hr' : (r.1 != 0) = false := by simpa using hr
                have HR2 := hidI (HGO.out hr)
                have hr60 := HLE.out.2 hr
                clear hr
                go_wp2_with fail
                go_roundw
                case rel => exact ⟨k + 1, r.2, by omega, by go_num, rfl, hr60, HR2, hw3⟩
                case measure => simp [intOf]; omega
              · have hr' : (r.1 != 0) = true := by simpa using hr
                have HFIN := hidI (HBAD.out hr)
                clear hr
                go_wp2_with fail
                go_ret2
                exact ⟨by rw [HFIN.out]; rfl, hw3⟩
    · have hkn : k = L.length := by omega
      have HR2 : Hid (wL (d + 1) deep cnt L = (0, c)) := by rw [HF.out, HR.out, hkn, List.drop_length, wR_nil]; rfl
      clear hkn
      go_wp2_with fail
      go_ret2
      exact ⟨by rw [HR2.out]; rfl, hBr⟩
theorem shape_any : ∀ d, ShapeOk d
  | 0 => shape_of 0 (fun _ h => by omega)
  | d + 1 => shape_of (d + 1) (fun d' h => by cases h; exact shape_any d)

set_option maxRecDepth 100000 in
set_option maxHeartbeats 1000000 in
theorem rwrong_any (d : Nat) (type key : ByteArray) (a : Option Addr) (cap : Nat) (L : List (Pick d)) (w : World) (hP : PicksAt w d a L) (hs0 : Small type) (hs1 : Small key) :
    Calls Tryz.prog 42 #[.agg #[.string type, .string key, .slice a L.length cap]] w fun e w' => e = .returned (.int .i64 (wA d type key L)) ∧ Below w.heap.size w w' := by
  generalize hW : w.alloc (Obj.cells #[.string type, .string key, .slice a L.length cap] 25) = W
  have hBW : Below w.heap.size w W := by rw [← hW]; exact below1 _ _
  have hbx : W.heap[w.heap.size]? = some (.cells #[.string type, .string key, .slice a L.length cap] 25 (0, 0)) := by rw [← hW]; exact heap_alloc_new _ _
  have c0 : W.cell? ⟨w.heap.size, 0, none⟩ = some (.string type) := by simp [World.cell?, hbx]
  have c1 : W.cell? ⟨w.heap.size, 1, none⟩ = some (.string key) := by simp [World.cell?, hbx]
  have c2 : W.cell? ⟨w.heap.size, 2, none⟩ = some (.slice a L.length cap) := by simp [World.cell?, hbx]
  have hcl := refNamed_any type W hs0
  have HP := hidI hP
  have HBW := hidI hBW
  clear hP hbx hBW
  go_enter Tryz.func42, Tryz.ntmps42
  go_wp2_with fail
  clear hW
  refine hcl.mono ?_
  clear hcl
  rintro e w1 ⟨rfl, hw1⟩
  have c1 := keptCell hw1 c1
  have c2 := keptCell hw1 c2
  have HB1 : Hid (Below w.heap.size w w1) := HBW.out.trans (hw1.mono HBW.out.size)
  clear hw1 HBW c0
  cases hn : named type with
  | false =>
    have HF : Hid (wA d type key L = 6) := by unfold wA; rw [hn]; rfl
    clear hn
    go_wp2_with fail
    go_ret
    exact ⟨by rw [HF.out]; rfl, HB1.out⟩
  | true =>
    have hcl := refNamed_any key w1 hs1
    go_wp2_with fail
    refine hcl.mono ?_
    clear hcl
    rintro e w2 ⟨rfl, hw2⟩
    have c2 := keptCell hw2 c2
    have HB2 : Hid (Below w.heap.size w w2) := HB1.out.trans (hw2.mono HB1.out.size)
    clear hw2 HB1 c1
    cases hn2 : named key with
    | false =>
      have HF : Hid (wA d type key L = 6) := by unfold wA; rw [hn, hn2]; rfl
      clear hn hn2
      go_wp2_with fail
      go_ret
      exact ⟨by rw [HF.out]; rfl, HB2.out⟩
    | true =>
      have HF : Hid (wA d type key L = (wL d 1 0 L).1) := by unfold wA; rw [hn, hn2]; rfl
      clear hn hn2
      have hcl := shape_any d a cap L 1 0 w2 (HP.out.kept HB2.out) (by omega) (by omega)
      go_wp2_with fail
      refine hcl.mono ?_
      clear hcl
      rintro e w3 ⟨rfl, hw3⟩
      have HB3 : Hid (Below w.heap.size w w3) := HB2.out.trans (hw3.mono HB2.out.size)
      clear hw3
      go_wp2_with fail
      go_ret
      exact ⟨by rw [HF.out]; rfl, HB3.out⟩
end Go.Proofs.YtjjggefmmeminabGreat
