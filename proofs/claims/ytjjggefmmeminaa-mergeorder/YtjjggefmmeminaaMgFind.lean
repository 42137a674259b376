/-
  The contracts of strings.Compare, of merge.Find, and of the search for a part of a name among parts whose names rise.
-/
import Derived.Test.YtjjggefmmeminaaMgMem
import Derived.Laws.Externs
namespace Go.Proofs.Ytjjggefmmeminaa
open Go.RowKit Go.Sort

theorem Try.e143 : ∀ args w, (callFunc 143 args).run Try.prog w = .ok (.enter 143 args) w := enters_of Try.func143 (by kernel_rfl) rfl
theorem Try.e131 : ∀ args w, (callFunc 131 args).run Try.prog w = .ok (.enter 131 args) w := enters_of Try.func131 (by kernel_rfl) rfl
theorem Try.e130 : ∀ args w, (callFunc 130 args).run Try.prog w = .ok (.enter 130 args) w := enters_of Try.func130 (by kernel_rfl) rfl
set_option maxRecDepth 100000 in
set_option maxHeartbeats 400000 in
theorem compareString_any (a b : ByteArray) (w : World) : Calls Try.prog 143 #[.string a, .string b] w fun e w' => e = .returned (.int .i64 (cmpS a b)) ∧ w' = w := by
  go_enter Try.func143, Try.ntmps143
  go_wp2
  rw [run_callFunc_extern Try.func150 (by kernel_rfl) (by kernel_rfl) (by kernel_rfl) (e := Extern.BytealgCompare.compare) (by kernel_rfl), Lib.run_compareString]
  simp only [Result.andThen]
  rw [Oper.upon_value]
  go_wp2
  go_ret
  exact ⟨rfl, rfl⟩
set_option maxRecDepth 100000 in
set_option maxHeartbeats 400000 in
theorem compare_any (a b : ByteArray) (w : World) : Calls Try.prog 131 #[.string a, .string b] w fun e w' => e = .returned (.int .i64 (cmpS a b)) ∧ w' = w := by
  have e1 := Try.e143
  go_enter Try.func131, Try.ntmps131
  go_wp2_with fail
  refine (compareString_any a b w).mono ?_
  rintro e w' ⟨rfl, rfl⟩
  go_wp2_with fail
  go_ret
  exact ⟨rfl, rfl⟩

set_option maxRecDepth 100000 in
set_option maxHeartbeats 400000 in
theorem withPart1_any (a1 a2 a3 : Option Addr) (n1 c1 n2 c2 n3 c3 : Nat) (s name : ByteArray) (w : World) :
    Calls Try.prog 130 #[.agg #[.string s, .slice a1 n1 c1, .slice a2 n2 c2, .slice a3 n3 c3], .string name] w fun e w' => e = .returned (.int .i64 (cmpS s name)) ∧ Below w.heap.size w w' := by
  have e1 := Try.e131
  go_enter Try.func130, Try.ntmps130
  go_wp2_with fail
  have hB := below1 w (Obj.cells #[.string s, .slice a1 n1 c1, .slice a2 n2 c2, .slice a3 n3 c3] 76)
  refine (compare_any s name _).mono ?_
  rintro e w' ⟨rfl, rfl⟩
  go_wp2_with fail
  go_ret
  exact ⟨rfl, hB⟩

set_option maxRecDepth 100000 in
set_option maxHeartbeats 1000000 in
theorem search_any (Z : Nat → Prop) (v : Value) (L : List PPart) (rv : Nat → Nat → Value) (name : ByteArray) (w : World) (hP : Parts Z w v L rv) (hR : Rise L) (hm : L.length ≤ 1000) :
    Calls Try.prog 129 #[v, .string name, .func (.func 130) #[] #[]] w fun e w' => e = .returned (.tuple #[.int .i64 (pos L name : Nat), .bool (hit L name)]) ∧ Below w.heap.size w w' := by
  obtain ⟨a, cap, rfl, hcap⟩ := hP.slice
  have HP := Hid.intro hP
  have HR := Hid.intro hR
  have eK := Try.e130
  clear hP hR
  go_enter Try.func129, Try.ntmps129
  go_wp2_with fail
  go_loopw [9, 10] (fun i j wr => ∃ lo hi : Nat, i = .int .i64 lo ∧ j = .int .i64 hi ∧ lo ≤ hi ∧ hi ≤ L.length ∧ Hid ((∀ t, t < lo → lt (nth L t).name name = true) ∧ ∀ t, hi ≤ t → t < L.length → lt (nth L t).name name = false) ∧ Below w.heap.size w wr) (fun i j _ => (intOf j).toNat - (intOf i).toNat)
  case atStart => exact ⟨0, L.length, rfl, rfl, Nat.zero_le _, Nat.le_refl _, ⟨fun t ht => absurd ht (Nat.not_lt_zero _), fun t h1 h2 => absurd h2 (by omega)⟩, Below.refl _ _⟩
  case round =>
    obtain ⟨lo, hi, rfl, rfl, hlh, hin, hI, hw⟩ := hrel
    by_cases hlt : lo < hi
    · have hml : (lo + hi) / 2 < L.length := by omega
      obtain ⟨g, cap', a1, c1, a2, c2, a3, c3, hv, -, -, -, k0, k1, k2, k3⟩ := (HP.out.kept' hw).aggs hml
      cases hv
      have hcl := withPart1_any a1 a2 a3 (nth L ((lo + hi) / 2)).fs.length c1 (nth L ((lo + hi) / 2)).os.length c2 (nth L ((lo + hi) / 2)).hs.length c3 (nth L ((lo + hi) / 2)).name name wr
      have hmi : ((lo : Int) + (hi : Int)) / 2 = (((lo + hi) / 2 : Nat) : Int) := by omega
      generalize hmm : (lo + hi) / 2 = m at *
      go_wp2_with fail
      refine hcl.mono ?_
      clear hcl
      rintro e w1 ⟨rfl, hw1⟩
      have HW : Hid (Below w.heap.size w w1) := hw.trans (hw1.mono hw.size)
      clear hw1 k0 k1 k2 k3 hw
      cases hl : lt (nth L m).name name with
      | true =>
        have hc : cmpS (nth L m).name name < 0 := cmpS_neg.2 hl
        have HI2 : Hid ((∀ t, t < m + 1 → lt (nth L t).name name = true) ∧ ∀ t, hi ≤ t → t < L.length → lt (nth L t).name name = false) := ⟨fun t ht => by
          rcases Nat.lt_or_eq_of_le (Nat.le_of_lt_succ ht) with h | h
          · exact lt_trans (HR.out t m h hml) hl
          · rw [h]; exact hl, hI.out.2⟩
        clear hl
        generalize cmpS (nth L m).name name = cv at *
        go_wp2_with fail
        go_roundw
        case rel => exact ⟨m + 1, hi, by go_num, rfl, by omega, hin, HI2, HW.out⟩
        case measure => simp [intOf]; omega
      | false =>
        have hc : ¬ cmpS (nth L m).name name < 0 := fun h => by rw [cmpS_neg.1 h] at hl; cases hl
        have HI2 : Hid ((∀ t, t < lo → lt (nth L t).name name = true) ∧ ∀ t, m ≤ t → t < L.length → lt (nth L t).name name = false) := ⟨hI.out.1, fun t ht htl => by
          cases h : lt (nth L t).name name with
          | false => rfl
          | true =>
            rcases Nat.lt_or_eq_of_le ht with h' | h'
            · rw [lt_trans (HR.out m t h' htl) h] at hl; cases hl
            · rw [← h', hl] at h; cases h⟩
        clear hl
        generalize cmpS (nth L m).name name = cv at *
        go_wp2_with fail
        go_roundw
        case rel => exact ⟨lo, m, rfl, by go_num, by omega, by omega, HI2, HW.out⟩
        case measure => simp [intOf]; omega
    · have hle : lo = hi := by omega
      subst hle
      have hpos : pos L name = lo := pos_is hin hI.out.1 (fun h => hI.out.2 lo (Nat.le_refl _) h)
      have hh : hit L name = (decide (lo < L.length) && eqs (nth L lo).name name) := by unfold hit; rw [hpos]
      have HH := Hid.intro hh
      clear hh
      have HPO := Hid.intro hpos
      clear hpos
      by_cases hll : lo < L.length
      · obtain ⟨g, cap', a1, c1, a2, c2, a3, c3, hv, -, -, -, k0, k1, k2, k3⟩ := (HP.out.kept' hw).aggs hll
        cases hv
        have hcl := withPart1_any a1 a2 a3 (nth L lo).fs.length c1 (nth L lo).os.length c2 (nth L lo).hs.length c3 (nth L lo).name name wr
        have hlo0 : (0 : Int) ≤ (lo : Int) := by omega
        have hlo1 : (lo : Int) < (L.length : Int) := by omega
        go_wp2_with fail
        refine hcl.mono ?_
        clear hcl
        rintro e w1 ⟨rfl, hw1⟩
        have HW : Hid (Below w.heap.size w w1) := hw.trans (hw1.mono hw.size)
        clear hw1 k0 k1 k2 k3 hw
        have hfin : Hid (decide (cmpS (nth L lo).name name = 0) = hit L name) := by
          rw [HH.out, decide_eq_true hll, Bool.true_and]
          cases h : eqs (nth L lo).name name with
          | true => exact decide_eq_true (cmpS_zero.2 (eqs_iff.1 h))
          | false => exact decide_eq_false fun h' => by rw [eqs_iff.2 (cmpS_zero.1 h')] at h; cases h
        generalize cmpS (nth L lo).name name = cv at *
        go_wp2_with fail
        go_ret2
        exact ⟨by rw [HPO.out, ← hfin.out]; rfl, HW.out⟩
      · have hll' : ¬ (lo : Int) < (L.length : Int) := by omega
        have hfin : Hid (hit L name = false) := by rw [HH.out, decide_eq_false hll]; rfl
        go_wp2_with fail
        go_ret2
        exact ⟨by rw [HPO.out, hfin.out]; rfl, hw⟩

/-! merge.Find -/
end Go.Proofs.Ytjjggefmmeminaa
