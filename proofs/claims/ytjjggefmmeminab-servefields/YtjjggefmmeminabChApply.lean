/-
  The contract of change.apply: one change.
-/
import Derived.Test.YtjjggefmmeminabChType
import Derived.Test.YtjjggefmmeminabChHide
import Derived.Deep.RegionWith
namespace Go.Proofs.Ytjjggefmmeminab
open Go.RowKit Go.Sort

def changeV (c : PChange) : Value := .agg #[.int .i64 c.kind, .string c.type, .string c.field, .string c.to]

theorem app_kind {n : Nat} {S : Nat → PSeen} {c : PChange} (h1 : c.kind ≠ 1) (h2 : c.kind ≠ 2) (h3 : c.kind ≠ 3) : appS n S c = (1, S) := by unfold appS; rw [if_pos ⟨h1, h2, h3⟩]
theorem app_none {n : Nat} {S : Nat → PSeen} {c : PChange} (h : c.kind = 1 ∨ c.kind = 2 ∨ c.kind = 3) (h2 : pfind n S c.type < 0) : appS n S c = (5, S) := by unfold appS; rw [if_neg (by omega), if_pos h2]
theorem app_type {n : Nat} {S : Nat → PSeen} {c : PChange} (h : c.kind = 1) (h2 : ¬ pfind n S c.type < 0) : appS n S c = callTS n S (pfind n S c.type).toNat c.to := by unfold appS; rw [if_neg (by omega), if_neg h2, if_pos h]
theorem app_field {n : Nat} {S : Nat → PSeen} {c : PChange} (h : c.kind = 2 ∨ c.kind = 3) (h2 : ¬ pfind n S c.type < 0) : appS n S c = fieldS S (pfind n S c.type).toNat c := by unfold appS; rw [if_neg (by omega), if_neg h2, if_neg (by omega)]

set_option maxRecDepth 100000 in
set_option maxHeartbeats 2000000 in
theorem apply_any (base n : Nat) (v : Value) (fv ov : Nat → Value) (S : Nat → PSeen) (c : PChange) (w : World) (hS : Seens w base v n fv ov S) (hto : Small c.to) (hbase : base ≤ w.heap.size) :
    Calls Try.prog 101 #[v, changeV c] w fun e w' => e = .returned (.int .i64 (appS n S c).1) ∧ (∃ fv' ov', Seens w' base v n fv' ov' (appS n S c).2) ∧ Below base w w' := by
  have hn : n ≤ 9223372036854775807 := hS.nmax
  obtain ⟨a, cap, rfl, hcap⟩ := hS.slice
  have HS : Hid (Seens w base (.slice a n cap) n fv ov S) := hS
  clear hS
  unfold changeV
  generalize hW : w.alloc (Obj.cells #[.int .i64 c.kind, .string c.type, .string c.field, .string c.to] 176) = W
  have hB : Below w.heap.size w W := by rw [← hW]; exact below1 _ _
  have c0 : W.cell? ⟨w.heap.size, 0, none⟩ = some (.int .i64 c.kind) := by rw [← hW, World.cell?_alloc_at _ _ _ _ rfl]; rfl
  have c1 : W.cell? ⟨w.heap.size, 1, none⟩ = some (.string c.type) := by rw [← hW, World.cell?_alloc_at _ _ _ _ rfl]; rfl
  have c2 : W.cell? ⟨w.heap.size, 2, none⟩ = some (.string c.field) := by rw [← hW, World.cell?_alloc_at _ _ _ _ rfl]; rfl
  have c3 : W.cell? ⟨w.heap.size, 3, none⟩ = some (.string c.to) := by rw [← hW, World.cell?_alloc_at _ _ _ _ rfl]; rfl
  have HSW : Hid (Seens W base (.slice a n cap) n fv ov S) := HS.out.kept hB
  have HBW : Hid (Below base w W) := hB.mono hbase
  have hzW : base ≤ W.heap.size := Nat.le_trans hbase hB.size
  clear HS hB
  by_cases hk1 : c.kind = 1
  · rw [hk1] at c0 hW ⊢
    go_enter Try.func101, Try.ntmps101
    go_wp2_with fail
    clear hW
    generalize w.heap.size = bc at *
    refine (cfind_any base n _ fv ov S c.type W HSW.out).mono ?_
    rintro e w1 ⟨rfl, hw1⟩
    have d0 := keptCell hw1 c0
    have d3 := keptCell hw1 c3
    have HS1 : Hid (Seens w1 base (.slice a n cap) n fv ov S) := HSW.out.kept hw1
    have HB1 : Hid (Below base w w1) := HBW.out.trans (hw1.mono hzW)
    have hz1 : base ≤ w1.heap.size := Nat.le_trans hzW hw1.size
    clear hw1 c0 c1 c2 c3 HSW HBW hzW
    by_cases hp : pfind n S c.type < 0
    · have hfin : Hid (appS n S c = (5, S)) := app_none (.inl hk1) hp
      clear hk1
      go_wp2_with fail
      go_ret
      exact ⟨by rw [hfin.out]; rfl, by rw [hfin.out]; exact ⟨_, _, HS1.out⟩, HB1.out⟩
    · have hfin : Hid (appS n S c = callTS n S (pfind n S c.type).toNat c.to) := app_type hk1 hp
      obtain ⟨t1, -, t3⟩ := pfind_hit hp
      generalize htn : (pfind n S c.type).toNat = t at *
      have HT : Hid (t < n) := t1
      rw [t3]
      clear hk1 hp t3 htn t1
      have hcl := callType_any base n t _ fv ov S c.to w1 HS1.out HT.out hto hz1
      go_wp2_with fail
      refine hcl.mono ?_
      clear hcl
      rintro e w2 ⟨rfl, hS2, hB2⟩
      have HS2 : Hid (Seens w2 base (.slice a n cap) n fv ov (callTS n S t c.to).2) := hS2
      have HB2 : Hid (Below base w w2) := HB1.out.trans hB2
      clear hS2 hB2 d0 d3
      generalize callTS n S t c.to = r at *
      go_wp2_with fail
      go_ret
      exact ⟨by rw [hfin.out]; rfl, by rw [hfin.out]; exact ⟨_, _, HS2.out⟩, HB2.out⟩
  by_cases hk23 : c.kind = 2 ∨ c.kind = 3
  case neg =>
    have hfin : Hid (appS n S c = (1, S)) := app_kind hk1 (by omega) (by omega)
    have e1 : (c.kind != 1) = true := by simpa using hk1
    have e2 : (c.kind != 2) = true := by simp; omega
    have e3 : (c.kind != 3) = true := by simp; omega
    clear hk1 hk23
    go_enter Try.func101, Try.ntmps101
    go_wp2_with fail
    go_ret
    exact ⟨by rw [hfin.out]; rfl, by rw [hfin.out]; exact ⟨_, _, HSW.out⟩, HBW.out⟩
  rcases hk23 with hk2 | hk3
  · have hk := hk2
    rw [hk] at c0 hW ⊢
    go_enter Try.func101, Try.ntmps101
    go_wp2_with fail
    clear hW
    generalize w.heap.size = bc at *
    refine (cfind_any base n _ fv ov S c.type W HSW.out).mono ?_
    rintro e w1 ⟨rfl, hw1⟩
    have d0 := keptCell hw1 c0
    have d2 := keptCell hw1 c2
    have d3 := keptCell hw1 c3
    have hS1 : Seens w1 base (.slice a n cap) n fv ov S := HSW.out.kept hw1
    have HB1 : Hid (Below base w w1) := HBW.out.trans (hw1.mono hzW)
    have hz1 : base ≤ w1.heap.size := Nat.le_trans hzW hw1.size
    clear hw1 c0 c1 c2 c3 HSW HBW hzW
    by_cases hp : pfind n S c.type < 0
    · have hfin : Hid (appS n S c = (5, S)) := app_none (by omega) hp
      have HS1 : Hid (Seens w1 base (.slice a n cap) n fv ov S) := hS1
      clear hk hk1 hS1
      go_wp2_with fail
      go_ret
      exact ⟨by rw [hfin.out]; rfl, by rw [hfin.out]; exact ⟨_, _, HS1.out⟩, HB1.out⟩
    have hfin : Hid (appS n S c = fieldS S (pfind n S c.type).toNat c) := app_field (by omega) hp
    obtain ⟨t1, -, t3⟩ := pfind_hit hp
    have HK : Hid (c.kind = 2) := hk
    generalize htn : (pfind n S c.type).toNat = t at *
    rw [t3]
    clear hk hk1 hp t3 htn
    obtain ⟨g, cap', hv, hgb, -⟩ := hS1.ptr t1
    cases hv
    obtain ⟨-, k1, -, -⟩ := hS1.cells t1
    have hgood := hS1.good t t1
    obtain ⟨fa, fc, hfv, hfc, hFA⟩ := (hS1.fields t t1).fieldsAt hgood.2.2.1 hgood.2.2.2.1
    rw [hfv] at k1
    have HFV : Hid (fv t = .slice fa (S t).nf fc) := hfv
    have cF : ∀ d os, Calls Try.prog 73 #[.slice fa (S t).nf fc, .string c.field] (grow (redrawn w1 d) os) fun e w'' => e = .returned (.int .i64 (fieldIdx (S t).nf (S t).F c.field)) ∧ ∃ p : Regrown, w'' = grow (redrawn w1 p.d) p.os := fun d os => Calls.regrown_of (field_any _ _ _ (S t).F _ _ (hFA.kept (below_regrown w1 d os)))
    have r1 := cell_regrown k1
    have r2 := cell_regrown d2
    have HS1 : Hid (Seens w1 base (.slice (some ⟨g, 0, none⟩) n cap) n fv ov S) := hS1
    have HT : Hid (t < n) := t1
    have t1' : (t : Int) < (n : Int) := by omega
    have t0' : (0 : Int) ≤ (t : Int) := by omega
    clear hS1 hgood hFA hfv
    go_wp2_with fail
    refine wp_region_quiet_below (by kernel_rfl) (by kernel_rfl) ?_
    repeat (go_big_quiet_step (first | exact cF _ _))
    refine wpQuiet_nil ?_
    intro _ hw'
    obtain ⟨⟨dq, osq⟩, hw''⟩ := hw'
    subst hw''
    have hb2 := below_regrown w1 dq osq
    have HS2 : Hid (Seens (grow (redrawn w1 dq) osq) base (.slice (some ⟨g, 0, none⟩) n cap) n fv ov S) := HS1.out.kept hb2
    have HB2 : Hid (Below base w (grow (redrawn w1 dq) osq)) := HB1.out.trans (hb2.mono hz1)
    have hz2 : base ≤ (grow (redrawn w1 dq) osq).heap.size := Nat.le_trans hz1 hb2.size
    have f0 := keptCell hb2 d0
    have f1 := keptCell hb2 k1
    have f3 := keptCell hb2 d3
    clear hb2 r1 r2 cF d0 d2 d3 k1 hz1 HS1 HB1
    generalize grow (redrawn w1 dq) osq = w2 at *
    by_cases hq : fieldIdx (S t).nf (S t).F c.field < 0
    · have hfin2 : Hid (appS n S c = (5, S)) := by unfold Hid; rw [hfin.out]; unfold fieldS; rw [if_pos hq]
      go_wp2_with fail
      go_ret
      exact ⟨by rw [hfin2.out]; rfl, by rw [hfin2.out]; exact ⟨_, _, HS2.out⟩, HB2.out⟩
    obtain ⟨q1, -, q3⟩ := fidx_hit hq
    have hfin2 : Hid (appS n S c = callFS S t (fieldIdx (S t).nf (S t).F c.field).toNat c.to) := by unfold Hid; rw [hfin.out]; unfold fieldS; rw [if_neg hq, if_pos HK.out]
    generalize hfx : (fieldIdx (S t).nf (S t).F c.field).toNat = f at *
    rw [q3]
    have HF : Hid (f < (S t).nf) := q1
    clear hq q3 hfx q1
    have hcl : ∀ w3 : World, Below w2.heap.size w2 w3 → Calls Try.prog 126 #[.slice fa (S t).nf fc, .int .i64 (f : Int), .string c.to] w3 fun e w' => e = .returned (.int .i64 (callFS S t f c.to).1) ∧ Seens w' base (.slice (some ⟨g, 0, none⟩) n cap) n fv ov (callFS S t f c.to).2 ∧ Below base w w' := by
      intro w3 hb
      have := callField_any base n t f _ fv ov S c.to w3 (HS2.out.kept hb) HT.out HF.out hto (Nat.le_trans hz2 hb.size)
      rw [HFV.out] at this
      refine this.mono ?_
      rintro e w' ⟨h5, h6, h7⟩
      exact ⟨h5, h6, (HB2.out.trans (hb.mono hz2)).trans h7⟩
    have hb0 : Below w2.heap.size w2 w2.drew := (Below.refl _ _).drew
    have hcl2 := hcl w2.drew hb0
    clear hcl hb0
    go_wp2_with fail
    go_region_with (go_at_call 126; refine hcl2.mono ?_; rintro e w4 ⟨rfl, hS4, hB4⟩)
    all_goals (
      have HS4 : Hid (Seens w4 base (.slice (some ⟨g, 0, none⟩) n cap) n fv ov (callFS S t f c.to).2) := hS4
      have HB4 : Hid (Below base w w4) := hB4
      clear hS4 hB4 f0 f1 f3
      generalize callFS S t f c.to = r at *
      go_wp2_with fail
      go_ret
      exact ⟨by rw [hfin2.out]; rfl, by rw [hfin2.out]; exact ⟨_, _, HS4.out⟩, HB4.out⟩)
  · have hk := hk3
    rw [hk] at c0 hW ⊢
    go_enter Try.func101, Try.ntmps101
    go_wp2_with fail
    clear hW
    generalize w.heap.size = bc at *
    refine (cfind_any base n _ fv ov S c.type W HSW.out).mono ?_
    rintro e w1 ⟨rfl, hw1⟩
    have d0 := keptCell hw1 c0
    have d2 := keptCell hw1 c2
    have d3 := keptCell hw1 c3
    have hS1 : Seens w1 base (.slice a n cap) n fv ov S := HSW.out.kept hw1
    have HB1 : Hid (Below base w w1) := HBW.out.trans (hw1.mono hzW)
    have hz1 : base ≤ w1.heap.size := Nat.le_trans hzW hw1.size
    clear hw1 c0 c1 c2 c3 HSW HBW hzW
    by_cases hp : pfind n S c.type < 0
    · have hfin : Hid (appS n S c = (5, S)) := app_none (by omega) hp
      have HS1 : Hid (Seens w1 base (.slice a n cap) n fv ov S) := hS1
      clear hk hk1 hS1
      go_wp2_with fail
      go_ret
      exact ⟨by rw [hfin.out]; rfl, by rw [hfin.out]; exact ⟨_, _, HS1.out⟩, HB1.out⟩
    have hfin : Hid (appS n S c = fieldS S (pfind n S c.type).toNat c) := app_field (by omega) hp
    obtain ⟨t1, -, t3⟩ := pfind_hit hp
    have HK : Hid (c.kind = 3) := hk
    generalize htn : (pfind n S c.type).toNat = t at *
    rw [t3]
    clear hk hk1 hp t3 htn
    obtain ⟨g, cap', hv, hgb, -⟩ := hS1.ptr t1
    cases hv
    obtain ⟨-, k1, -, -⟩ := hS1.cells t1
    have hgood := hS1.good t t1
    obtain ⟨fa, fc, hfv, hfc, hFA⟩ := (hS1.fields t t1).fieldsAt hgood.2.2.1 hgood.2.2.2.1
    rw [hfv] at k1
    have HFV : Hid (fv t = .slice fa (S t).nf fc) := hfv
    have cF : ∀ d os, Calls Try.prog 73 #[.slice fa (S t).nf fc, .string c.field] (grow (redrawn w1 d) os) fun e w'' => e = .returned (.int .i64 (fieldIdx (S t).nf (S t).F c.field)) ∧ ∃ p : Regrown, w'' = grow (redrawn w1 p.d) p.os := fun d os => Calls.regrown_of (field_any _ _ _ (S t).F _ _ (hFA.kept (below_regrown w1 d os)))
    have r1 := cell_regrown k1
    have r2 := cell_regrown d2
    have HS1 : Hid (Seens w1 base (.slice (some ⟨g, 0, none⟩) n cap) n fv ov S) := hS1
    have HT : Hid (t < n) := t1
    have t1' : (t : Int) < (n : Int) := by omega
    have t0' : (0 : Int) ≤ (t : Int) := by omega
    clear hS1 hgood hFA hfv
    go_wp2_with fail
    refine wp_region_quiet_below (by kernel_rfl) (by kernel_rfl) ?_
    repeat (go_big_quiet_step (first | exact cF _ _))
    refine wpQuiet_nil ?_
    intro _ hw'
    obtain ⟨⟨dq, osq⟩, hw''⟩ := hw'
    subst hw''
    have hb2 := below_regrown w1 dq osq
    have HS2 : Hid (Seens (grow (redrawn w1 dq) osq) base (.slice (some ⟨g, 0, none⟩) n cap) n fv ov S) := HS1.out.kept hb2
    have HB2 : Hid (Below base w (grow (redrawn w1 dq) osq)) := HB1.out.trans (hb2.mono hz1)
    have hz2 : base ≤ (grow (redrawn w1 dq) osq).heap.size := Nat.le_trans hz1 hb2.size
    have f0 := keptCell hb2 d0
    have f1 := keptCell hb2 k1
    have f3 := keptCell hb2 d3
    clear hb2 r1 r2 cF d0 d2 d3 k1 hz1 HS1 HB1
    generalize grow (redrawn w1 dq) osq = w2 at *
    by_cases hq : fieldIdx (S t).nf (S t).F c.field < 0
    · have hfin2 : Hid (appS n S c = (5, S)) := by unfold Hid; rw [hfin.out]; unfold fieldS; rw [if_pos hq]
      go_wp2_with fail
      go_ret
      exact ⟨by rw [hfin2.out]; rfl, by rw [hfin2.out]; exact ⟨_, _, HS2.out⟩, HB2.out⟩
    obtain ⟨q1, -, q3⟩ := fidx_hit hq
    have hfin2 : Hid (appS n S c = (0, hideF S t (fieldIdx (S t).nf (S t).F c.field).toNat)) := by unfold Hid; rw [hfin.out]; unfold fieldS; rw [if_neg hq, if_neg (by rw [HK.out]; decide)]
    generalize hfx : (fieldIdx (S t).nf (S t).F c.field).toNat = f at *
    rw [q3]
    have HF : Hid (f < (S t).nf) := q1
    clear hq q3 hfx q1
    have hcl := hide_any base n t f g cap fv ov S w2 HS2.out HT.out HF.out hz2
    go_wp2_with fail
    refine hcl.mono ?_
    clear hcl
    rintro e w4 ⟨rfl, hS4, hB4⟩
    have HS4 : Hid (∃ fv' ov', Seens w4 base (.slice (some ⟨g, 0, none⟩) n cap) n fv' ov' (hideF S t f)) := hS4
    have HB4 : Hid (Below base w w4) := HB2.out.trans hB4
    clear hS4 hB4 f0 f1 f3
    go_wp2_with fail
    go_ret
    exact ⟨by rw [hfin2.out]; rfl, by rw [hfin2.out]; exact HS4.out, HB4.out⟩
end Go.Proofs.Ytjjggefmmeminab
