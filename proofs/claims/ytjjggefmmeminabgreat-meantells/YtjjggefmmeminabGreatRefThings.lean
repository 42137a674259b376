import Derived.Test.YtjjggefmmeminabGreatRefWrong
import Derived.Test.YtjjggefmmeminabGreatJRe
/-
  The contract of stitchref1.WrongThings: it tells just what schema.Things tells.
-/
namespace Go.Proofs.YtjjggefmmeminabGreat
open Go.RowKit Go.Sort Go.PlainAid

theorem thing_none {n i : Nat} {T : Nat → LType} {X : Nat → LThing} (h : find n T (X i).type < 0) : wrongThing n T X i = 5 := by unfold wrongThing; rw [if_pos h]
theorem thing_key {n i t : Nat} {T : Nat → LType} {X : Nat → LThing} (h : find n T (X i).type = (t : Int)) (h' : named (X i).key = false ∨ 0 ≤ idx i (sameThing X (X i).type (X i).key)) : wrongThing n T X i = 6 := by
  unfold wrongThing hasThing; rw [if_neg (by omega)]
  rcases h' with h' | h' <;> simp [h']
theorem thing_vals {n i t : Nat} {T : Nat → LType} {X : Nat → LThing} (h : find n T (X i).type = (t : Int)) (h1 : named (X i).key = true) (h2 : idx i (sameThing X (X i).type (X i).key) < 0) : wrongThing n T X i = wrongVals (T t).nf (T t).F (X i).nv (X i).V := by
  unfold wrongThing hasThing wrongVals; rw [if_neg (by omega), h, Int.toNat_natCast]
  have : ¬ 0 ≤ idx i (sameThing X (X i).type (X i).key) := by omega
  simp [h1, this]
theorem same_cases (n : Nat) (X : Nat → LThing) (typ key : ByteArray) : idx n (sameThing X typ key) < 0 ∨ ∃ t : Nat, t < n ∧ idx n (sameThing X typ key) = (t : Int) := by
  rcases idx_cases n (sameThing X typ key) with ⟨h, _⟩ | ⟨t, ht, h, _⟩
  · left; omega
  · right; exact ⟨t, ht, h⟩

set_option maxHeartbeats 2000000 in
theorem refThings_any (a xa : Option Addr) (n cap m xcap : Nat) (T : Nat → LType) (X : Nat → LThing) (w : World) (hT : TypesAt w a n T) (hX : ThingsAt w xa m X) (hxcap : m ≤ xcap) :
    Calls Tryz.prog 71 #[.slice a n cap, .slice xa m xcap] w fun e w' => e = .returned (faultV (wrongThings n T m X)) ∧ Below w.heap.size w w' := by
  have hm : m ≤ 9223372036854775807 := hX.1
  have hn : n ≤ 9223372036854775807 := hT.1
  have HT : Hid (TypesAt w a n T) := hT
  have HX : Hid (ThingsAt w xa m X) := hX
  clear hT hX
  by_cases h : 60 < (m : Int)
  · have hfin : Hid (wrongThings n T m X = (4, 0)) := by unfold wrongThings Hid; rw [if_pos (by omega)]
    go_enter Tryz.func71, Tryz.ntmps71
    go_wp2_with fail
    exact bodyPost_ret (v := .agg #[.int .i64 4, .int .i64 0]) (by simp [results, Tryz.results71, go_sem]) rfl ⟨by rw [hfin.out]; rfl, below1 _ _⟩
  have HS : Hid (wrongThings n T m X = fault m (wrongThing n T X)) := by unfold wrongThings Hid; rw [if_neg (by omega)]
  go_enter Tryz.func71, Tryz.ntmps71
  go_wp2_with fail
  go_loopw [15] (fun i wr => ∃ k : Nat, k ≤ m ∧ i = .int .i64 k ∧ Hid (∀ j, j < k → wrongThing n T X j = 0) ∧ FR w wr) (fun i _ => m - (intOf i).toNat)
  case atStart => exact ⟨0, Nat.zero_le _, rfl, (fun j hj => absurd hj (Nat.not_lt_zero _)), FR.start _ _⟩
  case round =>
    obtain ⟨k, hk, rfl, hb, hfr⟩ := hrel
    by_cases hlt : k < m
    · obtain ⟨b, o, ha, t0, t1, t2, -, -, hs, hV⟩ := (HX.out.kept hfr.1).2 k hlt
      subst ha
      have hlt' : (k : Int) < (m : Int) := by omega
      have hk0 : (0 : Int) ≤ (k : Int) := by omega
      have hkc : (k : Int) ≤ (xcap : Int) := by omega
      generalize hW : wr.alloc (Obj.cells #[Value.string (X k).type, Value.string (X k).key, Value.slice (X k).va (X k).nv (X k).vcap] 88) = W
      have hB : Below wr.heap.size wr W := by rw [← hW]; exact below1 _ _
      have k0 : W.cell? ⟨wr.heap.size, 0, none⟩ = some (.string (X k).type) := by rw [← hW, World.cell?_alloc_at _ _ _ _ rfl]; rfl
      have k1 : W.cell? ⟨wr.heap.size, 1, none⟩ = some (.string (X k).key) := by rw [← hW, World.cell?_alloc_at _ _ _ _ rfl]; rfl
      have k2 : W.cell? ⟨wr.heap.size, 2, none⟩ = some (.slice (X k).va (X k).nv (X k).vcap) := by rw [← hW, World.cell?_alloc_at _ _ _ _ rfl]; rfl
      have hfrW : FR w W := hfr.next hB
      have HFR : Hid (FR w W) := hfrW
      have HVW : Hid (ValsAt W (X k).va (X k).nv (X k).V) := hV.kept hB
      have hfin0 : Hid (∀ e : Int, wrongThing n T X k = e → e ≠ 0 → wrongThings n T m X = (e, (k : Int))) := fun e he h0 => by
        rw [HS.out, fault_hit hlt (by rw [he]; exact h0) hb.out, he]
      have hgo : Hid (wrongThing n T X k = 0 → ∀ i, i < k + 1 → wrongThing n T X i = 0) := fun h0 i hi => by
        rcases Nat.lt_succ_iff_lt_or_eq.1 hi with h | h
        · exact hb i h
        · rw [h]; exact h0
      have hcT := refType_any a n cap T (X k).type W (HT.out.kept hfrW.1)
      clear hfr hB hfrW hV
      rcases find_cases n T (X k).type with h5 | ⟨t, ht, h5⟩
      · have hfin : Hid (wrongThings n T m X = (5, (k : Int))) := hfin0.out 5 (thing_none h5) (by decide)
        rw [typePtr_none h5] at hcT
        clear h5
        go_wp2_with fail
        clear hW
        refine hcT.mono ?_
        clear hcT
        rintro e w2 ⟨rfl, hw2⟩
        have hfr2 := HFR.out.next hw2
        have HFR2 : Hid (FR w w2) := hfr2
        obtain ⟨-, z1, d0, d1, g0, g1⟩ := hfr2
        clear hw2 k0 k1 k2 t0 t1 t2
        go_wp2_with fail
        exact bodyPost_ret (v := .agg #[.int .i64 5, .int .i64 (k : Int)]) (by simp [results, Tryz.results71, go_sem, d0, d1]) rfl ⟨by rw [hfin.out]; rfl, HFR2.out.set _ _⟩
      obtain ⟨b1, o1, ha, -, tc, -, -, hF⟩ := (HT.out.kept HFR.out.1).2 t ht
      subst ha
      rw [typePtr_some h5] at hcT
      go_wp2_with fail
      clear hW
      refine hcT.mono ?_
      clear hcT
      rintro e w2 ⟨rfl, hw2⟩
      have HFR2 : Hid (FR w w2) := HFR.out.next hw2
      have c0 := keptCell hw2 k0
      have c1 := keptCell hw2 k1
      have c2 := keptCell hw2 k2
      have tc2 := keptCell hw2 tc
      have HF2 : Hid (FieldsAt w2 (T t).fa (T t).nf (T t).F) := hF.kept hw2
      have HV2 : Hid (ValsAt w2 (X k).va (X k).nv (X k).V) := HVW.out.kept hw2
      have HX2 : Hid (ThingsAt w2 (some ⟨b, o, none⟩) m X) := HX.out.kept HFR2.out.1
      have H5 : Hid (find n T (X k).type = (t : Int)) := h5
      clear h5 hw2 k0 k1 k2 tc hF HVW HFR t0 t1 t2
      go_wp2_with fail
      have r0 := cell_regrown c0
      have r1 := cell_regrown c1
      have r2 := cell_regrown c2
      have cN : ∀ d os, Calls Tryz.prog 75 #[.string (X k).key] (grow (redrawn w2 d) os) fun e w'' => e = .returned (.bool (named (X k).key)) ∧ ∃ p : Regrown, w'' = grow (redrawn w2 p.d) p.os := fun d os => Calls.regrown_of (refNamed_any _ _ hs)
      have cF : ∀ d os, Calls Tryz.prog 44 #[.slice (some ⟨b, o, none⟩) k xcap, .string (X k).type, .string (X k).key] (grow (redrawn w2 d) os) fun e w'' => e = .returned (thingPtr (some ⟨b, o, none⟩) k X (X k).type (X k).key) ∧ ∃ p : Regrown, w'' = grow (redrawn w2 p.d) p.os := fun d os => Calls.regrown_of (refThing_any _ _ _ X _ _ _ ((HX2.out.less (Nat.le_of_lt hlt)).kept (below_regrown w2 d os)))
      cases h1 : named (X k).key
      · have hfin : Hid (wrongThings n T m X = (6, (k : Int))) := hfin0.out 6 (thing_key H5.out (.inl h1)) (by decide)
        rw [h1] at cN
        refine wp_region_quiet_below (by kernel_rfl) (by kernel_rfl) ?_
        repeat (go_big_quiet_step (first | exact cN _ _ | exact cF _ _))
        refine wpQuiet_nil ?_
        intro _ hw'
        obtain ⟨⟨dq, osq⟩, hw''⟩ := hw'
        subst hw''
        have hfr3 := HFR2.out.next (below_regrown w2 dq osq)
        generalize grow (redrawn w2 dq) osq = w3 at hfr3 ⊢
        have HFR3 : Hid (FR w w3) := hfr3
        obtain ⟨-, z1, d0, d1, g0, g1⟩ := hfr3
        clear r0 r1 r2 cN cF c0 c1 c2
        go_wp2_with fail
        exact bodyPost_ret (v := .agg #[.int .i64 6, .int .i64 (k : Int)]) (by simp [results, Tryz.results71, go_sem, d0, d1]) rfl ⟨by rw [hfin.out]; rfl, HFR3.out.set _ _⟩
      rcases same_cases k X (X k).type (X k).key with h6 | ⟨t', ht', h6⟩
      case inr =>
        have hfin : Hid (wrongThings n T m X = (6, (k : Int))) := hfin0.out 6 (thing_key H5.out (.inr (by omega))) (by decide)
        rw [h1] at cN
        rw [thingPtr_some h6] at cF
        clear h6
        refine wp_region_quiet_below (by kernel_rfl) (by kernel_rfl) ?_
        repeat (go_big_quiet_step (first | exact cN _ _ | exact cF _ _))
        refine wpQuiet_nil ?_
        intro _ hw'
        obtain ⟨⟨dq, osq⟩, hw''⟩ := hw'
        subst hw''
        have hfr3 := HFR2.out.next (below_regrown w2 dq osq)
        generalize grow (redrawn w2 dq) osq = w3 at hfr3 ⊢
        have HFR3 : Hid (FR w w3) := hfr3
        obtain ⟨-, z1, d0, d1, g0, g1⟩ := hfr3
        clear r0 r1 r2 cN cF c0 c1 c2
        go_wp2_with fail
        exact bodyPost_ret (v := .agg #[.int .i64 6, .int .i64 (k : Int)]) (by simp [results, Tryz.results71, go_sem, d0, d1]) rfl ⟨by rw [hfin.out]; rfl, HFR3.out.set _ _⟩
      case inl =>
        have hwt : Hid (wrongThing n T X k = wrongVals (T t).nf (T t).F (X k).nv (X k).V) := thing_vals H5.out h1 h6
        rw [h1] at cN
        rw [thingPtr_none h6] at cF
        clear h6
        refine wp_region_quiet_below (by kernel_rfl) (by kernel_rfl) ?_
        repeat (go_big_quiet_step (first | exact cN _ _ | exact cF _ _))
        refine wpQuiet_nil ?_
        intro _ hw'
        obtain ⟨⟨dq, osq⟩, hw''⟩ := hw'
        subst hw''
        have hb3 := below_regrown w2 dq osq
        generalize grow (redrawn w2 dq) osq = w3 at hb3 ⊢
        have HFR3 : Hid (FR w w3) := HFR2.out.next hb3
        have e2 := keptCell hb3 c2
        have hcV := refVals_any b1 (o1 + t * 2) (T t).fa (X k).va (T t).nf (T t).fcap (X k).nv (X k).vcap (T t).F (X k).V w3 (keptCell hb3 tc2) (HF2.out.kept hb3) (HV2.out.kept hb3)
        clear r0 r1 r2 cN cF c0 c1 c2 hb3 tc2
        go_wp2_with fail
        refine hcV.mono ?_
        clear hcV
        rintro e w4 ⟨rfl, hw4⟩
        have hfr4 := HFR3.out.next hw4
        have HFR4 : Hid (FR w w4) := hfr4
        obtain ⟨-, z1, d0, d1, g0, g1⟩ := hfr4
        clear hw4 e2
        by_cases h7 : wrongVals (T t).nf (T t).F (X k).nv (X k).V = 0
        · have hq : Hid (∀ i, i < k + 1 → wrongThing n T X i = 0) := hgo.out (by rw [hwt.out]; exact h7)
          have h7b : (wrongVals (T t).nf (T t).F (X k).nv (X k).V != 0) = false := by simpa using h7
          clear h7
          go_wp2_with fail
          go_roundw
          case rel => exact ⟨k + 1, by omega, by go_num, hq, HFR4.out⟩
          case measure => simp [intOf]; omega
        · have hfin : Hid (wrongThings n T m X = (wrongVals (T t).nf (T t).F (X k).nv (X k).V, (k : Int))) := hfin0.out _ hwt.out h7
          have h7b : (wrongVals (T t).nf (T t).F (X k).nv (X k).V != 0) = true := by simpa using h7
          clear h7
          generalize wrongVals (T t).nf (T t).F (X k).nv (X k).V = z at *
          go_wp2_with fail
          exact bodyPost_ret (v := .agg #[.int .i64 z, .int .i64 (k : Int)]) (by simp [results, Tryz.results71, go_sem, d0, d1]) rfl ⟨by rw [hfin.out]; rfl, HFR4.out.set _ _⟩
    · have hfin : Hid (wrongThings n T m X = (0, 0)) := by unfold Hid; rw [HS.out]; exact fault_none fun j hj => hb.out j (by omega)
      have HFR2 : Hid (FR w wr) := hfr
      obtain ⟨-, z1, d0, d1, g0, g1⟩ := hfr
      go_wp2_with fail
      exact bodyPost_ret (v := .agg #[.int .i64 0, .int .i64 0]) (by simp [results, Tryz.results71, go_sem, d0, d1]) rfl ⟨by rw [hfin.out]; rfl, HFR2.out.set _ _⟩
end Go.Proofs.YtjjggefmmeminabGreat
