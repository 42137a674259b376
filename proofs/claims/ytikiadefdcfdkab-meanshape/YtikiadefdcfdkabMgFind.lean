import Derived.Test.YtikiadefdcfdkabMgMem
import Derived.Laws.Externs
/-
  The contracts of strings.Compare, of merge.Find, and of the search for a part of a name among parts whose names rise.
-/
namespace Go.Proofs.Ytikiadefdcfdkab
open Go.RowKit Go.Sort

theorem Try.e138 : ∀ args w, (callFunc 138 args).run Try.prog w = .ok (.enter 138 args) w := enters_of Try.func138 (by kernel_rfl) rfl
theorem Try.e112 : ∀ args w, (callFunc 112 args).run Try.prog w = .ok (.enter 112 args) w := enters_of Try.func112 (by kernel_rfl) rfl
theorem Try.e111 : ∀ args w, (callFunc 111 args).run Try.prog w = .ok (.enter 111 args) w := enters_of Try.func111 (by kernel_rfl) rfl
theorem Try.e96 : ∀ args w, (callFunc 96 args).run Try.prog w = .ok (.enter 96 args) w := enters_of Try.func96 (by kernel_rfl) rfl

set_option maxRecDepth 100000 in
set_option maxHeartbeats 400000 in
theorem compareString_any (a b : ByteArray) (w : World) : Calls Try.prog 138 #[.string a, .string b] w fun e w' => e = .returned (.int .i64 (cmpS a b)) ∧ w' = w := by
  go_enter Try.func138, Try.ntmps138
  go_wp2
  rw [run_callFunc_extern Try.func154 (by kernel_rfl) (by kernel_rfl) (by kernel_rfl) (e := Extern.BytealgCompare.compare) (by kernel_rfl), Lib.run_compareString]
  simp only [Result.andThen]
  rw [Oper.upon_value]
  go_wp2
  go_ret
  exact ⟨rfl, rfl⟩
set_option maxRecDepth 100000 in
set_option maxHeartbeats 400000 in
theorem compare_any (a b : ByteArray) (w : World) : Calls Try.prog 112 #[.string a, .string b] w fun e w' => e = .returned (.int .i64 (cmpS a b)) ∧ w' = w := by
  have e1 := Try.e138
  go_enter Try.func112, Try.ntmps112
  go_wp2_with fail
  refine (compareString_any a b w).mono ?_
  rintro e w' ⟨rfl, rfl⟩
  go_wp2_with fail
  go_ret
  exact ⟨rfl, rfl⟩

set_option maxRecDepth 100000 in
set_option maxHeartbeats 400000 in
theorem withPart1_any (a1 a2 a3 : Option Addr) (n1 c1 n2 c2 n3 c3 : Nat) (s name : ByteArray) (w : World) :
    Calls Try.prog 111 #[.agg #[.string s, .slice a1 n1 c1, .slice a2 n2 c2, .slice a3 n3 c3], .string name] w fun e w' => e = .returned (.int .i64 (cmpS s name)) ∧ Below w.heap.size w w' := by
  have e1 := Try.e112
  go_enter Try.func111, Try.ntmps111
  go_wp2_with fail
  have hB := below1 w (Obj.cells #[.string s, .slice a1 n1 c1, .slice a2 n2 c2, .slice a3 n3 c3] 132)
  refine (compare_any s name _).mono ?_
  rintro e w' ⟨rfl, rfl⟩
  go_wp2_with fail
  go_ret
  exact ⟨rfl, hB⟩

theorem Parts.aggs {Z : Nat → Prop} {w : World} {v : Value} {L : List PPart} {rv : Nat → Nat → Value} (h : Parts Z w v L rv) {i : Nat} (hi : i < L.length) : ∃ g cap a1 c1 a2 c2 a3 c3, v = .slice (some ⟨g, 0, none⟩) L.length cap ∧ rv 0 i = .slice a1 (nth L i).fs.length c1 ∧ rv 1 i = .slice a2 (nth L i).os.length c2 ∧ rv 2 i = .slice a3 (nth L i).hs.length c3 ∧
    w.cell? ⟨g, i * 4, none⟩ = some (.string (nth L i).name) ∧ w.cell? ⟨g, i * 4 + 1, none⟩ = some (.slice a1 (nth L i).fs.length c1) ∧ w.cell? ⟨g, i * 4 + 2, none⟩ = some (.slice a2 (nth L i).os.length c2) ∧ w.cell? ⟨g, i * 4 + 3, none⟩ = some (.slice a3 (nth L i).hs.length c3) := by
  obtain ⟨g, cap, rfl, -⟩ := h.ptr hi
  obtain ⟨q0, q1, q2, q3⟩ := h.cells hi
  obtain ⟨a1, c1, e1, -⟩ := (h.rows 0 i (by decide) hi).slice
  obtain ⟨a2, c2, e2, -⟩ := (h.rows 1 i (by decide) hi).slice
  obtain ⟨a3, c3, e3, -⟩ := (h.rows 2 i (by decide) hi).slice
  rw [e1] at q1
  rw [e2] at q2
  rw [e3] at q3
  exact ⟨g, cap, a1, c1, a2, c2, a3, c3, rfl, e1, e2, e3, q0, q1, q2, q3⟩

set_option maxRecDepth 100000 in
set_option maxHeartbeats 1000000 in
theorem search_any (Z : Nat → Prop) (v : Value) (L : List PPart) (rv : Nat → Nat → Value) (name : ByteArray) (w : World) (hP : Parts Z w v L rv) (hR : Rise L) (hm : L.length ≤ 1000) :
    Calls Try.prog 110 #[v, .string name, .func (.func 111) #[] #[]] w fun e w' => e = .returned (.tuple #[.int .i64 (pos L name : Nat), .bool (hit L name)]) ∧ Below w.heap.size w w' := by
  obtain ⟨a, cap, rfl, hcap⟩ := hP.slice
  have HP := Hid.intro hP
  have HR := Hid.intro hR
  have eK := Try.e111
  clear hP hR
  go_enter Try.func110, Try.ntmps110
  go_wp2_with fail
  go_loopw [9, 10] (fun i j wr => ∃ lo hi : Nat, i = .int .i64 lo ∧ j = .int .i64 hi ∧ lo ≤ hi ∧ hi ≤ L.length ∧ Hid ((∀ t, t < lo → lt (nth L t).name name = true) ∧ ∀ t, hi ≤ t → t < L.length → lt (nth L t).name name = false) ∧ Below w.heap.size w wr) (fun i j _ => (intOf j).toNat - (intOf i).toNat)
  case atStart => exact ⟨0, L.length, rfl, rfl, Nat.zero_le _, Nat.le_refl _, ⟨fun t ht => absurd ht (Nat.not_lt_zero _), fun t h1 h2 => absurd h2 (by omega)⟩, Below.refl _ _⟩
  case round =>
    obtain ⟨lo, hi, rfl, rfl, hlh, hin, hI, hw⟩ := hrel
    by_cases hlt : lo < hi
    · have hml : (lo + hi) / 2 < L.length := by omega
      obtain ⟨g, cap', a1, c1, a2, c2, a3, c3, hv, -, -, -, k0, k1, k2, k3⟩ := (HP.out.kept' hw).aggs hml
      cases hv
      have hcl := withPart1_any a1 a2 a3 (nth L ((lo + hi) / 2)).fs.length c1 (nth L ((lo + hi) / 2)).os.length c2 (nth L ((lo + hi) / 2)).hs.length c3 (nth L ((lo + hi) / 2)).name name wr
      have hmi : ((lo : Int) + (hi : Int)) / 2 = (((lo + hi) / 2 : Nat) : Int) := by omega
      generalize hmm : (lo + hi) / 2 = m at *
      go_wp2_with fail
      refine hcl.mono ?_
      clear hcl
      rintro e w1 ⟨rfl, hw1⟩
      have HW : Hid (Below w.heap.size w w1) := hw.trans (hw1.mono hw.size)
      clear hw1 k0 k1 k2 k3 hw
      cases hl : lt (nth L m).name name with
      | true =>
        have hc : cmpS (nth L m).name name < 0 := cmpS_neg.2 hl
        have HI2 : Hid ((∀ t, t < m + 1 → lt (nth L t).name name = true) ∧ ∀ t, hi ≤ t → t < L.length → lt (nth L t).name name = false) := ⟨fun t ht => by
          rcases Nat.lt_or_eq_of_le (Nat.le_of_lt_succ ht) with h | h
          · exact lt_trans (HR.out t m h hml) hl
          · rw [h]; exact hl, hI.out.2⟩
        clear hl
        generalize cmpS (nth L m).name name = cv at *
        go_wp2_with fail
        go_roundw
        case rel => exact ⟨m + 1, hi, by go_num, rfl, by omega, hin, HI2, HW.out⟩
        case measure => simp [intOf]; omega
      | false =>
        have hc : ¬ cmpS (nth L m).name name < 0 := fun h => by rw [cmpS_neg.1 h] at hl; cases hl
        have HI2 : Hid ((∀ t, t < lo → lt (nth L t).name name = true) ∧ ∀ t, m ≤ t → t < L.length → lt (nth L t).name name = false) := ⟨hI.out.1, fun t ht htl => by
          cases h : lt (nth L t).name name with
          | false => rfl
          | true =>
            rcases Nat.lt_or_eq_of_le ht with h' | h'
            · rw [lt_trans (HR.out m t h' htl) h] at hl; cases hl
            · rw [← h', hl] at h; cases h⟩
        clear hl
        generalize cmpS (nth L m).name name = cv at *
        go_wp2_with fail
        go_roundw
        case rel => exact ⟨lo, m, rfl, by go_num, by omega, by omega, HI2, HW.out⟩
        case measure => simp [intOf]; omega
    · have hle : lo = hi := by omega
      subst hle
      have hpos : pos L name = lo := pos_is hin hI.out.1 (fun h => hI.out.2 lo (Nat.le_refl _) h)
      have hh : hit L name = (decide (lo < L.length) && eqs (nth L lo).name name) := by unfold hit; rw [hpos]
      have HH := Hid.intro hh
      clear hh
      have HPO := Hid.intro hpos
      clear hpos
      by_cases hll : lo < L.length
      · obtain ⟨g, cap', a1, c1, a2, c2, a3, c3, hv, -, -, -, k0, k1, k2, k3⟩ := (HP.out.kept' hw).aggs hll
        cases hv
        have hcl := withPart1_any a1 a2 a3 (nth L lo).fs.length c1 (nth L lo).os.length c2 (nth L lo).hs.length c3 (nth L lo).name name wr
        have hlo0 : (0 : Int) ≤ (lo : Int) := by omega
        have hlo1 : (lo : Int) < (L.length : Int) := by omega
        go_wp2_with fail
        refine hcl.mono ?_
        clear hcl
        rintro e w1 ⟨rfl, hw1⟩
        have HW : Hid (Below w.heap.size w w1) := hw.trans (hw1.mono hw.size)
        clear hw1 k0 k1 k2 k3 hw
        have hfin : Hid (decide (cmpS (nth L lo).name name = 0) = hit L name) := by
          rw [HH.out, decide_eq_true hll, Bool.true_and]
          cases h : eqs (nth L lo).name name with
          | true => exact decide_eq_true (cmpS_zero.2 (eqs_iff.1 h))
          | false => exact decide_eq_false fun h' => by rw [eqs_iff.2 (cmpS_zero.1 h')] at h; cases h
        generalize cmpS (nth L lo).name name = cv at *
        go_wp2_with fail
        go_ret2
        exact ⟨by rw [HPO.out, ← hfin.out]; rfl, HW.out⟩
      · have hll' : ¬ (lo : Int) < (L.length : Int) := by omega
        have hfin : Hid (hit L name = false) := by rw [HH.out, decide_eq_false hll]; rfl
        go_wp2_with fail
        go_ret2
        exact ⟨by rw [HPO.out, hfin.out]; rfl, hw⟩

/-! merge.Find -/
set_option maxRecDepth 100000 in
set_option maxHeartbeats 400000 in
theorem mfind1_any (bn n1 c1 n2 c2 n3 c3 : Nat) (a1 a2 a3 : Option Addr) (name s : ByteArray) (w : World) (hm : w.cell? ⟨bn, 0, none⟩ = some (.string name)) :
    Calls Try.prog 96 #[.agg #[.string s, .slice a1 n1 c1, .slice a2 n2 c2, .slice a3 n3 c3], .pointer (some ⟨bn, 0, none⟩)] w fun e w' => e = .returned (.bool (eqs s name)) ∧ Below w.heap.size w w' := by
  have hbn : bn < w.heap.size := block_lt_of_cell hm
  go_enter Try.func96, Try.ntmps96
  go_wp2
  go_ret
  exact ⟨by rw [← eqs_eq]; rfl, below1 _ _⟩
set_option maxRecDepth 100000 in
set_option maxHeartbeats 800000 in
theorem mindex_any (Z : Nat → Prop) (bn : Nat) (v : Value) (L : List PPart) (rv : Nat → Nat → Value) (name : ByteArray) (w : World) (hP : Parts Z w v L rv) (hm : w.cell? ⟨bn, 0, none⟩ = some (.string name)) :
    Calls Try.prog 95 #[v, .func (.func 96) #[] #[.pointer (some ⟨bn, 0, none⟩)]] w fun e w' => e = .returned (.int .i64 (mfind L name)) ∧ Below w.heap.size w w' := by
  have hn : L.length ≤ 9223372036854775807 := hP.nmax
  obtain ⟨a, cap, rfl, hcap⟩ := hP.slice
  have HP := Hid.intro hP
  have eK := Try.e96
  clear hP
  go_enter Try.func95, Try.ntmps95
  go_wp2_with fail
  go_loopw [8] (fun i wr => ∃ k : Nat, k ≤ L.length ∧ i = .int .i64 k ∧ Hid (∀ j, j < k → eqs (nth L j).name name = false) ∧ Below w.heap.size w wr) (fun i _ => L.length - (intOf i).toNat)
  case atStart => exact ⟨0, Nat.zero_le _, rfl, (fun j hj => absurd hj (Nat.not_lt_zero _)), Below.refl _ _⟩
  case round =>
    obtain ⟨k, hk, rfl, hb, hw⟩ := hrel
    by_cases hlt : k < L.length
    · obtain ⟨g, cap', a1, c1, a2, c2, a3, c3, hv, -, -, -, k0, k1, k2, k3⟩ := (HP.out.kept' hw).aggs hlt
      cases hv
      have hlt' : (k : Int) < (L.length : Int) := by omega
      have hk0 : (0 : Int) ≤ (k : Int) := by omega
      have hcl := mfind1_any bn (nth L k).fs.length c1 (nth L k).os.length c2 (nth L k).hs.length c3 a1 a2 a3 name (nth L k).name wr (keptCell hw hm)
      go_wp2_with fail
      refine hcl.mono ?_
      clear hcl
      rintro e w1 ⟨rfl, hw1⟩
      have hw2 : Below w.heap.size w w1 := hw.trans (hw1.mono hw.size)
      clear hw1 k0 k1 k2 k3
      cases hpk : eqs (nth L k).name name with
      | true =>
        have hfin : Hid (mfind L name = (k : Int)) := idx_hit hlt hpk hb
        clear hpk
        go_wp2_with fail
        go_ret
        exact ⟨by rw [hfin.out]; rfl, hw2⟩
      | false =>
        have hb2 : Hid (∀ j, j < k + 1 → eqs (nth L j).name name = false) := fun j hj => by
          rcases Nat.lt_succ_iff_lt_or_eq.1 hj with h | h
          · exact hb j h
          · rw [h]; exact hpk
        clear hpk
        go_wp2_with fail
        go_roundw
        case rel => exact ⟨k + 1, by omega, by go_num, hb2, hw2⟩
        case measure => simp [intOf]; omega
    · have hfin : Hid (mfind L name = -1) := idx_none (fun j hj => hb j (by omega))
      go_wp2_with fail
      go_ret
      exact ⟨by rw [hfin.out]; rfl, hw⟩
set_option maxRecDepth 100000 in
set_option maxHeartbeats 400000 in
theorem mfind_any (Z : Nat → Prop) (v : Value) (L : List PPart) (rv : Nat → Nat → Value) (name : ByteArray) (w : World) (hP : Parts Z w v L rv) :
    Calls Try.prog 69 #[v, .string name] w fun e w' => e = .returned (.int .i64 (mfind L name)) ∧ Below w.heap.size w w' := by
  have hmf : ∀ (fn : Fn) (first cap : Array Value) (w : World), (Instr.makeFunc fn first cap).run Try.prog w = .ok (.func fn first cap) w := fun _ _ _ _ => rfl
  have HP := Hid.intro hP
  obtain ⟨a, cap, rfl, hcap⟩ := hP.slice
  clear hP
  go_enter Try.func69, Try.ntmps69
  go_wp2_with fail
  have hB := below1 w (Obj.cells #[Value.string name] 9)
  refine (mindex_any Z w.heap.size _ L rv name _ (HP.out.kept' hB) ?_).mono ?_
  · rw [World.cell?_alloc_at _ _ _ _ rfl]; rfl
  · rintro e w1 ⟨rfl, hw1⟩
    have hB1 := hB.trans (hw1.mono hB.size)
    clear hw1 hB
    go_wp2_with fail
    go_ret
    exact ⟨rfl, hB1⟩
end Go.Proofs.Ytikiadefdcfdkab
