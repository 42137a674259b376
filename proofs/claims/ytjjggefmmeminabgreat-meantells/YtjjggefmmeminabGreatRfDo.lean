import Derived.Test.YtjjggefmmeminabGreatRfMem
/-
  The contract of (*stitchref1.Seen).Do: one change.
-/
namespace Go.Proofs.YtjjggefmmeminabGreat
open Go.RowKit Go.Sort

theorem dor_kind {n : Nat} {len : Nat → Nat} {txt : Nat → Nat → ByteArray} {c : PChange} (h1 : c.kind ≠ 1) (h2 : c.kind ≠ 2) (h3 : c.kind ≠ 3) : doR n len txt c = (1, txt) := by unfold doR; rw [if_pos ⟨h1, h2, h3⟩]
theorem dor_none {n : Nat} {len : Nat → Nat} {txt : Nat → Nat → ByteArray} {c : PChange} (h : c.kind = 1 ∨ c.kind = 2 ∨ c.kind = 3) (h2 : pl n (txt 1) c.type < 0) : doR n len txt c = (5, txt) := by unfold doR; rw [if_neg (by omega), if_pos h2]
theorem dor_type {n : Nat} {len : Nat → Nat} {txt : Nat → Nat → ByteArray} {c : PChange} (h : c.kind = 1) (h2 : ¬ pl n (txt 1) c.type < 0) : doR n len txt c = if !named c.to || decide (0 ≤ pl n (txt 1) c.to) then (6, txt) else (0, setT txt 1 (pl n (txt 1) c.type).toNat c.to) := by unfold doR; rw [if_neg (by omega), if_neg h2, if_pos h]
theorem dor_field {n : Nat} {len : Nat → Nat} {txt : Nat → Nat → ByteArray} {c : PChange} (h : c.kind = 2 ∨ c.kind = 3) (h2 : ¬ pl n (txt 1) c.type < 0) : doR n len txt c = doF len txt (pl n (txt 1) c.type).toNat c := by unfold doR; rw [if_neg (by omega), if_neg h2, if_neg (by omega)]

set_option maxRecDepth 100000 in
set_option maxHeartbeats 4000000 in
theorem do_any (base bs n : Nat) (fv : Value) (rows : Nat → Value) (len : Nat → Nat) (txt : Nat → Nat → ByteArray) (c : PChange) (w : World) (hS : RS w base bs n fv rows len txt) (hl1 : len 1 = n) (hto : Small c.to) (hbase : base ≤ w.heap.size) :
    Calls Tryz.prog 73 #[.pointer (some ⟨bs, 0, none⟩), changeV c] w fun e w' => e = .returned (.int .i64 (doR n len txt c).1) ∧ RS w' base bs n fv rows len (doR n len txt c).2 ∧ Below base w w' := by
  have hn : n ≤ 9223372036854775807 := hS.nmax
  have HS : Hid (RS w base bs n fv rows len txt) := hS
  clear hS
  unfold changeV
  generalize hW : w.alloc (Obj.cells #[.int .i64 c.kind, .string c.type, .string c.field, .string c.to] 160) = W
  have hB : Below w.heap.size w W := by rw [← hW]; exact below1 _ _
  have c0 : W.cell? ⟨w.heap.size, 0, none⟩ = some (.int .i64 c.kind) := by rw [← hW, World.cell?_alloc_at _ _ _ _ rfl]; rfl
  have c1 : W.cell? ⟨w.heap.size, 1, none⟩ = some (.string c.type) := by rw [← hW, World.cell?_alloc_at _ _ _ _ rfl]; rfl
  have c2 : W.cell? ⟨w.heap.size, 2, none⟩ = some (.string c.field) := by rw [← hW, World.cell?_alloc_at _ _ _ _ rfl]; rfl
  have c3 : W.cell? ⟨w.heap.size, 3, none⟩ = some (.string c.to) := by rw [← hW, World.cell?_alloc_at _ _ _ _ rfl]; rfl
  have HSW : Hid (RS W base bs n fv rows len txt) := HS.out.kept hB
  have HBW : Hid (Below base w W) := hB.mono hbase
  have hzW : base ≤ W.heap.size := Nat.le_trans hbase hB.size
  clear HS hB
  by_cases hbad : c.kind ≠ 1 ∧ c.kind ≠ 2 ∧ c.kind ≠ 3
  · have hfin : Hid (doR n len txt c = (1, txt)) := dor_kind hbad.1 hbad.2.1 hbad.2.2
    have e1 : (c.kind != 1) = true := by simpa using hbad.1
    have e2 : (c.kind != 2) = true := by simpa using hbad.2.1
    have e3 : (c.kind != 3) = true := by simpa using hbad.2.2
    clear hbad
    go_enter Tryz.func73, Tryz.ntmps73
    go_wp2_with fail
    go_ret
    exact ⟨by rw [hfin.out]; rfl, by rw [hfin.out]; exact HSW.out, HBW.out⟩
  -- the row of what types are called
  obtain ⟨ka, kc, hk1, hkc, hKA⟩ := HSW.out.keys (k := 1) (by omega)
  rw [hl1] at hk1 hkc hKA
  have b1 : W.cell? ⟨bs, 1, none⟩ = some (.slice ka n kc) := by simp [World.cell?, HSW.out.box, hk1]
  have HK1 : Hid (rows 1 = .slice ka n kc) := hk1
  have HKA : Hid (KeysAt W ka n (txt 1)) := hKA
  have cP : ∀ d os, Calls Tryz.prog 74 #[.slice ka n kc, .string c.type] (grow (redrawn W d) os) fun e w'' => e = .returned (.int .i64 (pl n (txt 1) c.type)) ∧ ∃ p : Regrown, w'' = grow (redrawn W p.d) p.os := fun d os => Calls.regrown_of (place_any _ _ _ (txt 1) _ _ (hKA.kept (below_regrown W d os)))
  have r1 := cell_regrown b1
  have r2 := cell_regrown c1
  clear hk1 hKA
  rcases (show c.kind = 1 ∨ c.kind = 2 ∨ c.kind = 3 by omega) with hk | hk | hk
  · rw [hk] at c0 hW ⊢
    go_enter Tryz.func73, Tryz.ntmps73
    go_wp2_with fail
    clear hW
    generalize w.heap.size = bc at *
    refine wp_region_quiet_below (by kernel_rfl) (by kernel_rfl) ?_
    repeat (go_big_quiet_step (first | exact cP _ _))
    refine wpQuiet_nil ?_
    intro _ hw'
    obtain ⟨⟨dq, osq⟩, hw''⟩ := hw'
    subst hw''
    have hb2 := below_regrown W dq osq
    have HS2 : Hid (RS (grow (redrawn W dq) osq) base bs n fv rows len txt) := HSW.out.kept hb2
    have HB2 : Hid (Below base w (grow (redrawn W dq) osq)) := HBW.out.trans (hb2.mono hzW)
    have hz2 : base ≤ (grow (redrawn W dq) osq).heap.size := Nat.le_trans hzW hb2.size
    have HKA2 : Hid (KeysAt (grow (redrawn W dq) osq) ka n (txt 1)) := HKA.out.kept hb2
    have d0 := keptCell hb2 c0
    have d1 := keptCell hb2 b1
    have d2 := keptCell hb2 c2
    have d3 := keptCell hb2 c3
    clear hb2 r1 r2 cP c0 c1 c2 c3 b1 hzW HSW HBW HKA
    generalize grow (redrawn W dq) osq = w2 at *
    by_cases hp : pl n (txt 1) c.type < 0
    · have hfin : Hid (doR n len txt c = (5, txt)) := dor_none (by omega) hp
      clear hk
      go_wp2_with fail
      go_ret
      exact ⟨by rw [hfin.out]; rfl, by rw [hfin.out]; exact HS2.out, HB2.out⟩
    have hfin : Hid (doR n len txt c = if !named c.to || decide (0 ≤ pl n (txt 1) c.to) then (6, txt) else (0, setT txt 1 (pl n (txt 1) c.type).toNat c.to)) := dor_type hk hp
    obtain ⟨t1, -, t3⟩ := pl_hit hp
    generalize htn : (pl n (txt 1) c.type).toNat = t at *
    rw [t3]
    clear hk hp t3 htn
    have ht' : (t : Int) < (n : Int) := by omega
    have ht0 : (0 : Int) ≤ (t : Int) := by omega
    have cN : ∀ d os, Calls Tryz.prog 75 #[.string c.to] (grow (redrawn w2 d) os) fun e w'' => e = .returned (.bool (named c.to)) ∧ ∃ p : Regrown, w'' = grow (redrawn w2 p.d) p.os := fun d os => Calls.regrown_of (refNamed_any _ _ hto)
    have cQ : ∀ d os, Calls Tryz.prog 74 #[.slice ka n kc, .string c.to] (grow (redrawn w2 d) os) fun e w'' => e = .returned (.int .i64 (pl n (txt 1) c.to)) ∧ ∃ p : Regrown, w'' = grow (redrawn w2 p.d) p.os := fun d os => Calls.regrown_of (place_any _ _ _ (txt 1) _ _ (HKA2.out.kept (below_regrown w2 d os)))
    have r1 := cell_regrown d1
    have r3 := cell_regrown d3
    cases hna : named c.to
    · have hfin2 : Hid (doR n len txt c = (6, txt)) := by unfold Hid; rw [hfin.out]; simp [hna]
      rw [hna] at cN
      go_wp2_with fail
      refine wp_region_quiet_below (by kernel_rfl) (by kernel_rfl) ?_
      repeat (go_big_quiet_step (first | exact cN _ _ | exact cQ _ _))
      refine wpQuiet_nil ?_
      intro _ hw'
      obtain ⟨⟨dq, osq⟩, hw''⟩ := hw'
      subst hw''
      have hb3 := below_regrown w2 dq osq
      have HS3 : Hid (RS (grow (redrawn w2 dq) osq) base bs n fv rows len txt) := HS2.out.kept hb3
      have HB3 : Hid (Below base w (grow (redrawn w2 dq) osq)) := HB2.out.trans (hb3.mono hz2)
      clear hb3 cN cQ r1 r3
      go_wp2_with fail
      go_ret
      exact ⟨by rw [hfin2.out]; rfl, by rw [hfin2.out]; exact HS3.out, HB3.out⟩
    rw [hna] at cN
    by_cases hq : 0 ≤ pl n (txt 1) c.to
    · have hfin2 : Hid (doR n len txt c = (6, txt)) := by unfold Hid; rw [hfin.out]; simp [hq]
      go_wp2_with fail
      refine wp_region_quiet_below (by kernel_rfl) (by kernel_rfl) ?_
      repeat (go_big_quiet_step (first | exact cN _ _ | exact cQ _ _))
      refine wpQuiet_nil ?_
      intro _ hw'
      obtain ⟨⟨dq, osq⟩, hw''⟩ := hw'
      subst hw''
      have hb3 := below_regrown w2 dq osq
      have HS3 : Hid (RS (grow (redrawn w2 dq) osq) base bs n fv rows len txt) := HS2.out.kept hb3
      have HB3 : Hid (Below base w (grow (redrawn w2 dq) osq)) := HB2.out.trans (hb3.mono hz2)
      clear hb3 cN cQ r1 r3
      go_wp2_with fail
      go_ret
      exact ⟨by rw [hfin2.out]; rfl, by rw [hfin2.out]; exact HS3.out, HB3.out⟩
    have hfin2 : Hid (doR n len txt c = (0, setT txt 1 t c.to)) := by unfold Hid; rw [hfin.out]; simp [hna, hq]
    go_wp2_with fail
    refine wp_region_quiet_below (by kernel_rfl) (by kernel_rfl) ?_
    repeat (go_big_quiet_step (first | exact cN _ _ | exact cQ _ _))
    refine wpQuiet_nil ?_
    intro _ hw'
    obtain ⟨⟨dq, osq⟩, hw''⟩ := hw'
    subst hw''
    have hb3 := below_regrown w2 dq osq
    have HS3 : Hid (RS (grow (redrawn w2 dq) osq) base bs n fv rows len txt) := HS2.out.kept hb3
    have HB3 : Hid (Below base w (grow (redrawn w2 dq) osq)) := HB2.out.trans (hb3.mono hz2)
    have f1 := keptCell hb3 d1
    have f3 := keptCell hb3 d3
    clear hb3 cN cQ r1 r3 d0 d1 d2 d3 HS2 HB2 HKA2
    generalize grow (redrawn w2 dq) osq = w3 at *
    have rk := HS3.out.texts 1 (by omega)
    rcases rk.shape with ⟨-, h0⟩ | ⟨g, cap, hv, hg, -, -⟩
    · rw [hl1] at h0; omega
    have hv2 : (Value.slice ka n kc) = .slice (some ⟨g, 0, none⟩) n cap := by rw [← HK1.out, hv, hl1]
    cases hv2
    rw [hv] at rk
    have k0 := rk.cell (j := t) (by rw [hl1]; omega)
    have kz := rk.free t
    unfold textCell at k0
    have HS4 : Hid (RS (w3.setCell ⟨g, t, none⟩ (.string c.to)) base bs n fv rows len (setT txt 1 t c.to)) := HS3.out.setText (by omega) hv hto
    have HB4 : Hid (Below base w (w3.setCell ⟨g, t, none⟩ (.string c.to))) := HB3.out.setCell hg _
    clear rk hv
    go_wp2_with fail
    go_region
    all_goals (
      go_wp2_with fail
      go_ret
      exact ⟨by rw [hfin2.out]; rfl, by rw [hfin2.out]; exact HS4.out.kept ((Below.refl _ _).drew), HB4.out.drew⟩)
  · rw [hk] at c0 hW ⊢
    go_enter Tryz.func73, Tryz.ntmps73
    go_wp2_with fail
    clear hW
    generalize w.heap.size = bc at *
    refine wp_region_quiet_below (by kernel_rfl) (by kernel_rfl) ?_
    repeat (go_big_quiet_step (first | exact cP _ _))
    refine wpQuiet_nil ?_
    intro _ hw'
    obtain ⟨⟨dq, osq⟩, hw''⟩ := hw'
    subst hw''
    have hb2 := below_regrown W dq osq
    have HS2 : Hid (RS (grow (redrawn W dq) osq) base bs n fv rows len txt) := HSW.out.kept hb2
    have HB2 : Hid (Below base w (grow (redrawn W dq) osq)) := HBW.out.trans (hb2.mono hzW)
    have hz2 : base ≤ (grow (redrawn W dq) osq).heap.size := Nat.le_trans hzW hb2.size
    have HKA2 : Hid (KeysAt (grow (redrawn W dq) osq) ka n (txt 1)) := HKA.out.kept hb2
    have d0 := keptCell hb2 c0
    have d1 := keptCell hb2 b1
    have d2 := keptCell hb2 c2
    have d3 := keptCell hb2 c3
    clear hb2 r1 r2 cP c0 c1 c2 c3 b1 hzW HSW HBW HKA
    generalize grow (redrawn W dq) osq = w2 at *
    by_cases hp : pl n (txt 1) c.type < 0
    · have hfin : Hid (doR n len txt c = (5, txt)) := dor_none (by omega) hp
      clear hk
      go_wp2_with fail
      go_ret
      exact ⟨by rw [hfin.out]; rfl, by rw [hfin.out]; exact HS2.out, HB2.out⟩
    have hfin : Hid (doR n len txt c = doF len txt (pl n (txt 1) c.type).toNat c) := dor_field (by omega) hp
    obtain ⟨t1, -, t3⟩ := pl_hit hp
    generalize htn : (pl n (txt 1) c.type).toNat = t at *
    rw [t3]
    have HKD : Hid (c.kind = 2) := hk
    clear hk hp t3 htn HKA2 HK1 d1
    have ht' : (t : Int) < (n : Int) := by omega
    have ht0 : (0 : Int) ≤ (t : Int) := by omega
    have hfr := HS2.out.frow
    rcases hfr.shape with ⟨-, h0⟩ | ⟨gf, fcap, hfv, -, -, -⟩
    · omega
    subst hfv
    obtain ⟨fa, fc, hrt, hfc, hKF⟩ := HS2.out.keys (k := 2 + t) (by omega)
    have d1 : w2.cell? ⟨bs, 2, none⟩ = some (.slice (some ⟨gf, 0, none⟩) n fcap) := by simp [World.cell?, HS2.out.box]
    have d4 := hfr.cell (j := t) (by omega)
    rw [hrt] at d4
    have hlen : len (2 + t) ≤ 9223372036854775807 := HS2.out.lens (2 + t) (by omega)
    have HRT : Hid (rows (2 + t) = .slice fa (len (2 + t)) fc) := hrt
    have HKF : Hid (KeysAt w2 fa (len (2 + t)) (txt (2 + t))) := hKF
    have cP : ∀ d os, Calls Tryz.prog 74 #[.slice fa (len (2 + t)) fc, .string c.field] (grow (redrawn w2 d) os) fun e w'' => e = .returned (.int .i64 (pl (len (2 + t)) (txt (2 + t)) c.field)) ∧ ∃ p : Regrown, w'' = grow (redrawn w2 p.d) p.os := fun d os => Calls.regrown_of (place_any _ _ _ (txt (2 + t)) _ _ (hKF.kept (below_regrown w2 d os)))
    have r1 := cell_regrown d1
    have r2 := cell_regrown d2
    have r4 := cell_regrown d4
    clear hrt hKF hfr
    go_wp2_with fail
    refine wp_region_quiet_below (by kernel_rfl) (by kernel_rfl) ?_
    repeat (go_big_quiet_step (first | exact cP _ _))
    refine wpQuiet_nil ?_
    intro _ hw'
    obtain ⟨⟨dq, osq⟩, hw''⟩ := hw'
    subst hw''
    have hb3 := below_regrown w2 dq osq
    have HS3 : Hid (RS (grow (redrawn w2 dq) osq) base bs n (.slice (some ⟨gf, 0, none⟩) n fcap) rows len txt) := HS2.out.kept hb3
    have HB3 : Hid (Below base w (grow (redrawn w2 dq) osq)) := HB2.out.trans (hb3.mono hz2)
    have hz3 : base ≤ (grow (redrawn w2 dq) osq).heap.size := Nat.le_trans hz2 hb3.size
    have HKF3 : Hid (KeysAt (grow (redrawn w2 dq) osq) fa (len (2 + t)) (txt (2 + t))) := HKF.out.kept hb3
    have f0 := keptCell hb3 d0
    have f1 := keptCell hb3 d1
    have f2 := keptCell hb3 d2
    have f3 := keptCell hb3 d3
    have f4 := keptCell hb3 d4
    clear hb3 cP r1 r2 r4 d0 d1 d2 d3 d4 HS2 HB2 HKF hz2
    generalize grow (redrawn w2 dq) osq = w3 at *
    by_cases hq : pl (len (2 + t)) (txt (2 + t)) c.field < 0
    · have hfin2 : Hid (doR n len txt c = (5, txt)) := by unfold Hid; rw [hfin.out]; unfold doF; rw [if_pos (.inl hq)]
      go_wp2_with fail
      go_ret
      exact ⟨by rw [hfin2.out]; rfl, by rw [hfin2.out]; exact HS3.out, HB3.out⟩
    by_cases hem : c.field.size = 0
    · have hfin2 : Hid (doR n len txt c = (5, txt)) := by unfold Hid; rw [hfin.out]; unfold doF; rw [if_pos (.inr hem)]
      have he1 : c.field.toList.isEmpty = true := empty_size.2 hem
      have he2 : (c.field.toList == []) = true := by rw [toList_nil.2 hem]; rfl
      clear hem
      go_wp2_with fail
      go_ret
      exact ⟨by rw [hfin2.out]; rfl, by rw [hfin2.out]; exact HS3.out, HB3.out⟩
    have he1 : c.field.toList.isEmpty = false := by
      cases h : c.field.toList.isEmpty with
      | false => rfl
      | true => exact absurd (empty_size.1 h) hem
    obtain ⟨q1, -, q3⟩ := pl_hit hq
    have hnot : Hid (¬ (pl (len (2 + t)) (txt (2 + t)) c.field < 0 ∨ c.field.size = 0)) := fun h => h.elim hq hem
    have hfin1 : Hid (doR n len txt c = doF len txt t c) := hfin
    have HFX : Hid (doF len txt t c = if !named c.to || decide (0 ≤ pl (len (2 + t)) (txt (2 + t)) c.to) then (6, txt) else (0, setT txt (2 + t) (pl (len (2 + t)) (txt (2 + t)) c.field).toNat c.to)) := by
      unfold Hid doF
      rw [if_neg hnot.out, if_neg (by rw [HKD.out]; decide)]
    generalize hfx : (pl (len (2 + t)) (txt (2 + t)) c.field).toNat = f at *
    rw [q3]
    have hf' : (f : Int) < (len (2 + t) : Int) := by omega
    have hf0 : (0 : Int) ≤ (f : Int) := by omega
    have hfl : f < len (2 + t) := q1
    clear hq hem q3 hfx q1 hnot hfin
    have cN : ∀ d os, Calls Tryz.prog 75 #[.string c.to] (grow (redrawn w3 d) os) fun e w'' => e = .returned (.bool (named c.to)) ∧ ∃ p : Regrown, w'' = grow (redrawn w3 p.d) p.os := fun d os => Calls.regrown_of (refNamed_any _ _ hto)
    have cQ : ∀ d os, Calls Tryz.prog 74 #[.slice fa (len (2 + t)) fc, .string c.to] (grow (redrawn w3 d) os) fun e w'' => e = .returned (.int .i64 (pl (len (2 + t)) (txt (2 + t)) c.to)) ∧ ∃ p : Regrown, w'' = grow (redrawn w3 p.d) p.os := fun d os => Calls.regrown_of (place_any _ _ _ (txt (2 + t)) _ _ (HKF3.out.kept (below_regrown w3 d os)))
    have r1 := cell_regrown f1
    have r3 := cell_regrown f3
    have r4 := cell_regrown f4
    cases hna : named c.to
    · have hfin2 : Hid (doR n len txt c = (6, txt)) := by unfold Hid; rw [hfin1.out, HFX.out]; simp [hna]
      rw [hna] at cN
      go_wp2_with fail
      refine wp_region_quiet_below (by kernel_rfl) (by kernel_rfl) ?_
      repeat (go_big_quiet_step (first | exact cN _ _ | exact cQ _ _))
      refine wpQuiet_nil ?_
      intro _ hw'
      obtain ⟨⟨dq, osq⟩, hw''⟩ := hw'
      subst hw''
      have hb4 := below_regrown w3 dq osq
      have HS4 : Hid (RS (grow (redrawn w3 dq) osq) base bs n (.slice (some ⟨gf, 0, none⟩) n fcap) rows len txt) := HS3.out.kept hb4
      have HB4 : Hid (Below base w (grow (redrawn w3 dq) osq)) := HB3.out.trans (hb4.mono hz3)
      clear hb4 cN cQ r1 r3 r4
      go_wp2_with fail
      go_ret
      exact ⟨by rw [hfin2.out]; rfl, by rw [hfin2.out]; exact HS4.out, HB4.out⟩
    rw [hna] at cN
    by_cases hq : 0 ≤ pl (len (2 + t)) (txt (2 + t)) c.to
    · have hfin2 : Hid (doR n len txt c = (6, txt)) := by unfold Hid; rw [hfin1.out, HFX.out]; simp [hq]
      go_wp2_with fail
      refine wp_region_quiet_below (by kernel_rfl) (by kernel_rfl) ?_
      repeat (go_big_quiet_step (first | exact cN _ _ | exact cQ _ _))
      refine wpQuiet_nil ?_
      intro _ hw'
      obtain ⟨⟨dq, osq⟩, hw''⟩ := hw'
      subst hw''
      have hb4 := below_regrown w3 dq osq
      have HS4 : Hid (RS (grow (redrawn w3 dq) osq) base bs n (.slice (some ⟨gf, 0, none⟩) n fcap) rows len txt) := HS3.out.kept hb4
      have HB4 : Hid (Below base w (grow (redrawn w3 dq) osq)) := HB3.out.trans (hb4.mono hz3)
      clear hb4 cN cQ r1 r3 r4
      go_wp2_with fail
      go_ret
      exact ⟨by rw [hfin2.out]; rfl, by rw [hfin2.out]; exact HS4.out, HB4.out⟩
    have hfin2 : Hid (doR n len txt c = (0, setT txt (2 + t) f c.to)) := by unfold Hid; rw [hfin1.out, HFX.out]; simp [hna, hq]
    go_wp2_with fail
    refine wp_region_quiet_below (by kernel_rfl) (by kernel_rfl) ?_
    repeat (go_big_quiet_step (first | exact cN _ _ | exact cQ _ _))
    refine wpQuiet_nil ?_
    intro _ hw'
    obtain ⟨⟨dq, osq⟩, hw''⟩ := hw'
    subst hw''
    have hb4 := below_regrown w3 dq osq
    have HS4 : Hid (RS (grow (redrawn w3 dq) osq) base bs n (.slice (some ⟨gf, 0, none⟩) n fcap) rows len txt) := HS3.out.kept hb4
    have HB4 : Hid (Below base w (grow (redrawn w3 dq) osq)) := HB3.out.trans (hb4.mono hz3)
    have g1 := keptCell hb4 f1
    have g3 := keptCell hb4 f3
    have g4 := keptCell hb4 f4
    clear hb4 cN cQ r1 r3 r4 f0 f1 f2 f3 f4 HS3 HB3 HKF3
    generalize grow (redrawn w3 dq) osq = w4 at *
    have rk := HS4.out.texts (2 + t) (by omega)
    rcases rk.shape with ⟨-, h0⟩ | ⟨g, cap, hv, hg, -, -⟩
    · omega
    have hv2 : (Value.slice fa (len (2 + t)) fc) = .slice (some ⟨g, 0, none⟩) (len (2 + t)) cap := by rw [← HRT.out, hv]
    cases hv2
    rw [hv] at rk
    have k0 := rk.cell (j := f) (by omega)
    have kz := rk.free f
    unfold textCell at k0
    have HS5 : Hid (RS (w4.setCell ⟨g, f, none⟩ (.string c.to)) base bs n (.slice (some ⟨gf, 0, none⟩) n fcap) rows len (setT txt (2 + t) f c.to)) := HS4.out.setText (by omega) hv hto
    have HB5 : Hid (Below base w (w4.setCell ⟨g, f, none⟩ (.string c.to))) := HB4.out.setCell hg _
    clear rk hv
    go_wp2_with fail
    go_region
    all_goals (
      go_wp2_with fail
      go_ret
      exact ⟨by rw [hfin2.out]; rfl, by rw [hfin2.out]; exact HS5.out.kept ((Below.refl _ _).drew), HB5.out.drew⟩)
  · rw [hk] at c0 hW ⊢
    go_enter Tryz.func73, Tryz.ntmps73
    go_wp2_with fail
    clear hW
    generalize w.heap.size = bc at *
    refine wp_region_quiet_below (by kernel_rfl) (by kernel_rfl) ?_
    repeat (go_big_quiet_step (first | exact cP _ _))
    refine wpQuiet_nil ?_
    intro _ hw'
    obtain ⟨⟨dq, osq⟩, hw''⟩ := hw'
    subst hw''
    have hb2 := below_regrown W dq osq
    have HS2 : Hid (RS (grow (redrawn W dq) osq) base bs n fv rows len txt) := HSW.out.kept hb2
    have HB2 : Hid (Below base w (grow (redrawn W dq) osq)) := HBW.out.trans (hb2.mono hzW)
    have hz2 : base ≤ (grow (redrawn W dq) osq).heap.size := Nat.le_trans hzW hb2.size
    have HKA2 : Hid (KeysAt (grow (redrawn W dq) osq) ka n (txt 1)) := HKA.out.kept hb2
    have d0 := keptCell hb2 c0
    have d1 := keptCell hb2 b1
    have d2 := keptCell hb2 c2
    have d3 := keptCell hb2 c3
    clear hb2 r1 r2 cP c0 c1 c2 c3 b1 hzW HSW HBW HKA
    generalize grow (redrawn W dq) osq = w2 at *
    by_cases hp : pl n (txt 1) c.type < 0
    · have hfin : Hid (doR n len txt c = (5, txt)) := dor_none (by omega) hp
      clear hk
      go_wp2_with fail
      go_ret
      exact ⟨by rw [hfin.out]; rfl, by rw [hfin.out]; exact HS2.out, HB2.out⟩
    have hfin : Hid (doR n len txt c = doF len txt (pl n (txt 1) c.type).toNat c) := dor_field (by omega) hp
    obtain ⟨t1, -, t3⟩ := pl_hit hp
    generalize htn : (pl n (txt 1) c.type).toNat = t at *
    rw [t3]
    have HKD : Hid (c.kind = 3) := hk
    clear hk hp t3 htn HKA2 HK1 d1
    have ht' : (t : Int) < (n : Int) := by omega
    have ht0 : (0 : Int) ≤ (t : Int) := by omega
    have hfr := HS2.out.frow
    rcases hfr.shape with ⟨-, h0⟩ | ⟨gf, fcap, hfv, -, -, -⟩
    · omega
    subst hfv
    obtain ⟨fa, fc, hrt, hfc, hKF⟩ := HS2.out.keys (k := 2 + t) (by omega)
    have d1 : w2.cell? ⟨bs, 2, none⟩ = some (.slice (some ⟨gf, 0, none⟩) n fcap) := by simp [World.cell?, HS2.out.box]
    have d4 := hfr.cell (j := t) (by omega)
    rw [hrt] at d4
    have hlen : len (2 + t) ≤ 9223372036854775807 := HS2.out.lens (2 + t) (by omega)
    have HRT : Hid (rows (2 + t) = .slice fa (len (2 + t)) fc) := hrt
    have HKF : Hid (KeysAt w2 fa (len (2 + t)) (txt (2 + t))) := hKF
    have cP : ∀ d os, Calls Tryz.prog 74 #[.slice fa (len (2 + t)) fc, .string c.field] (grow (redrawn w2 d) os) fun e w'' => e = .returned (.int .i64 (pl (len (2 + t)) (txt (2 + t)) c.field)) ∧ ∃ p : Regrown, w'' = grow (redrawn w2 p.d) p.os := fun d os => Calls.regrown_of (place_any _ _ _ (txt (2 + t)) _ _ (hKF.kept (below_regrown w2 d os)))
    have r1 := cell_regrown d1
    have r2 := cell_regrown d2
    have r4 := cell_regrown d4
    clear hrt hKF hfr
    go_wp2_with fail
    refine wp_region_quiet_below (by kernel_rfl) (by kernel_rfl) ?_
    repeat (go_big_quiet_step (first | exact cP _ _))
    refine wpQuiet_nil ?_
    intro _ hw'
    obtain ⟨⟨dq, osq⟩, hw''⟩ := hw'
    subst hw''
    have hb3 := below_regrown w2 dq osq
    have HS3 : Hid (RS (grow (redrawn w2 dq) osq) base bs n (.slice (some ⟨gf, 0, none⟩) n fcap) rows len txt) := HS2.out.kept hb3
    have HB3 : Hid (Below base w (grow (redrawn w2 dq) osq)) := HB2.out.trans (hb3.mono hz2)
    have hz3 : base ≤ (grow (redrawn w2 dq) osq).heap.size := Nat.le_trans hz2 hb3.size
    have HKF3 : Hid (KeysAt (grow (redrawn w2 dq) osq) fa (len (2 + t)) (txt (2 + t))) := HKF.out.kept hb3
    have f0 := keptCell hb3 d0
    have f1 := keptCell hb3 d1
    have f2 := keptCell hb3 d2
    have f3 := keptCell hb3 d3
    have f4 := keptCell hb3 d4
    clear hb3 cP r1 r2 r4 d0 d1 d2 d3 d4 HS2 HB2 HKF hz2
    generalize grow (redrawn w2 dq) osq = w3 at *
    by_cases hq : pl (len (2 + t)) (txt (2 + t)) c.field < 0
    · have hfin2 : Hid (doR n len txt c = (5, txt)) := by unfold Hid; rw [hfin.out]; unfold doF; rw [if_pos (.inl hq)]
      go_wp2_with fail
      go_ret
      exact ⟨by rw [hfin2.out]; rfl, by rw [hfin2.out]; exact HS3.out, HB3.out⟩
    by_cases hem : c.field.size = 0
    · have hfin2 : Hid (doR n len txt c = (5, txt)) := by unfold Hid; rw [hfin.out]; unfold doF; rw [if_pos (.inr hem)]
      have he1 : c.field.toList.isEmpty = true := empty_size.2 hem
      have he2 : (c.field.toList == []) = true := by rw [toList_nil.2 hem]; rfl
      clear hem
      go_wp2_with fail
      go_ret
      exact ⟨by rw [hfin2.out]; rfl, by rw [hfin2.out]; exact HS3.out, HB3.out⟩
    have he1 : c.field.toList.isEmpty = false := by
      cases h : c.field.toList.isEmpty with
      | false => rfl
      | true => exact absurd (empty_size.1 h) hem
    obtain ⟨q1, -, q3⟩ := pl_hit hq
    have hnot : Hid (¬ (pl (len (2 + t)) (txt (2 + t)) c.field < 0 ∨ c.field.size = 0)) := fun h => h.elim hq hem
    have hfin1 : Hid (doR n len txt c = doF len txt t c) := hfin
    have HFX : Hid (doF len txt t c = (0, setT txt (2 + t) (pl (len (2 + t)) (txt (2 + t)) c.field).toNat ⟨#[]⟩)) := by
      unfold Hid doF
      rw [if_neg hnot.out, if_pos HKD.out]
    generalize hfx : (pl (len (2 + t)) (txt (2 + t)) c.field).toNat = f at *
    rw [q3]
    have hf' : (f : Int) < (len (2 + t) : Int) := by omega
    have hf0 : (0 : Int) ≤ (f : Int) := by omega
    have hfl : f < len (2 + t) := q1
    clear hq hem q3 hfx q1 hnot hfin
    have rk := HS3.out.texts (2 + t) (by omega)
    rcases rk.shape with ⟨-, h0⟩ | ⟨g, cap, hv, hg, -, -⟩
    · omega
    have hv2 : (Value.slice fa (len (2 + t)) fc) = .slice (some ⟨g, 0, none⟩) (len (2 + t)) cap := by rw [← HRT.out, hv]
    cases hv2
    rw [hv] at rk
    have k0 := rk.cell (j := f) (by omega)
    have kz := rk.free f
    unfold textCell at k0
    have HS4 : Hid (RS (w3.setCell ⟨g, f, none⟩ (.string ⟨#[]⟩)) base bs n (.slice (some ⟨gf, 0, none⟩) n fcap) rows len (setT txt (2 + t) f ⟨#[]⟩)) := HS3.out.setText (by omega) hv (Nat.zero_le _)
    have HB4 : Hid (Below base w (w3.setCell ⟨g, f, none⟩ (.string ⟨#[]⟩))) := HB3.out.setCell hg _
    clear rk hv
    go_wp2_with fail
    go_ret
    exact ⟨by rw [hfin1.out, HFX.out]; rfl, by rw [hfin1.out, HFX.out]; exact HS4.out, HB4.out⟩
end Go.Proofs.YtjjggefmmeminabGreat
