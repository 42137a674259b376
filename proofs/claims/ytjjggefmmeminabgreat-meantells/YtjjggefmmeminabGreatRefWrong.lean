import Derived.Test.YtjjggefmmeminabGreatJRe
/-
  The contract of stitchref1.Wrong: it tells just what schema.Wrong tells.
-/
namespace Go.Proofs.YtjjggefmmeminabGreat
open Go.RowKit Go.Sort Go.PlainAid

/-- What w held is kept, and the block that was laid first is a fault that is none yet. -/
def FR (w wr : World) : Prop := Below w.heap.size w wr ∧ w.heap.size < wr.heap.size ∧ wr.cell? ⟨w.heap.size, 0, none⟩ = some (.int .i64 0) ∧ wr.cell? ⟨w.heap.size, 1, none⟩ = some (.int .i64 0) ∧ wr.frozen? ⟨w.heap.size, 0, none⟩ = false ∧ wr.frozen? ⟨w.heap.size, 1, none⟩ = false
theorem FR.next {w wr w' : World} (h : FR w wr) (hb : Below wr.heap.size wr w') : FR w w' :=
  ⟨h.1.trans (hb.mono h.1.size), Nat.lt_of_lt_of_le h.2.1 hb.size, keptCell hb h.2.2.1, keptCell hb h.2.2.2.1, (hb.frozen (p := ⟨w.heap.size, 0, none⟩) h.2.1).trans h.2.2.2.2.1, (hb.frozen (p := ⟨w.heap.size, 1, none⟩) h.2.1).trans h.2.2.2.2.2⟩
theorem FR.start (w : World) (t : TypeId) : FR w (w.alloc (.cells #[.int .i64 0, .int .i64 0] t)) :=
  ⟨(Below.refl _ _).alloc (Nat.le_refl _) _, by simp, by rw [World.cell?_alloc_at _ _ _ _ rfl]; rfl, by rw [World.cell?_alloc_at _ _ _ _ rfl]; rfl, World.frozen?_alloc_at _ _ _ _ rfl, World.frozen?_alloc_at _ _ _ _ rfl⟩
theorem FR.set {w wr : World} (h : FR w wr) (u v : Value) : Below w.heap.size w ((wr.setCell ⟨w.heap.size, 0, none⟩ u).setCell ⟨w.heap.size, 1, none⟩ v) :=
  (h.1.setCell (Nat.le_refl _) _).setCell (Nat.le_refl _) _

set_option maxHeartbeats 400000 in
theorem refWrong1_any (e k : Int) (b : Nat) (w : World) (hc : w.cell? ⟨b, 0, none⟩ = some (.int .i64 k)) :
    Calls Tryz.prog 105 #[.int .i64 e, .pointer (some ⟨b, 0, none⟩)] w fun x w' => x = .returned (.agg #[.int .i64 e, .int .i64 k]) ∧ Below w.heap.size w w' := by
  have hb : b < w.heap.size := block_lt_of_cell hc
  go_enter Tryz.func105, Tryz.ntmps105
  go_wp2_with fail
  exact bodyPost_ret (v := .agg #[.int .i64 e, .int .i64 k]) (by simp [results, Tryz.results105, go_sem]) rfl ⟨rfl, below1 _ _⟩

theorem wrongS_name {n k : Nat} {T : Nat → LType} (hn : n ≤ 8) (hk : k < n) (h : wrongTypeName T k = 6) (hb : ∀ j, j < k → wrongTypeName T j = 0) : wrongS n T = (6, (k : Int)) := by
  have e : fault n (wrongTypeName T) = (6, (k : Int)) := by rw [fault_hit hk (by rw [h]; decide) hb, h]
  unfold wrongS; rw [if_neg (by omega), e, if_pos (by simp)]
theorem wrongS_fields {n : Nat} {T : Nat → LType} (hn : n ≤ 8) (hb : ∀ j, j < n → wrongTypeName T j = 0) : wrongS n T = fault n (fun i => wrongFields n T (T i).nf (T i).F) := by
  unfold wrongS; rw [if_neg (by omega), fault_none hb, if_neg (by simp)]
theorem wrongFields_hit {n nf j : Nat} {T : Nat → LType} {F : Nat → LField} (hn : nf ≤ 10) (hj : j < nf) (h : wrongField n T F j ≠ 0) (hb : ∀ i, i < j → wrongField n T F i = 0) : wrongFields n T nf F = wrongField n T F j := by
  unfold wrongFields; rw [if_neg (by omega), fault_hit hj h hb]
theorem wrongFields_ok {n nf : Nat} {T : Nat → LType} {F : Nat → LField} (hn : nf ≤ 10) (hb : ∀ i, i < nf → wrongField n T F i = 0) : wrongFields n T nf F = 0 := by
  unfold wrongFields; rw [if_neg (by omega), fault_none hb]
theorem nameT_bad {T : Nat → LType} {k : Nat} (h : named (T k).name = false) : wrongTypeName T k = 6 := by unfold wrongTypeName; simp [h]
theorem nameT_taken {T : Nat → LType} {k t : Nat} (h : find k T (T k).name = (t : Int)) : wrongTypeName T k = 6 := by unfold wrongTypeName; simp [h]
theorem nameT_ok {T : Nat → LType} {k : Nat} (h : named (T k).name = true) (h' : find k T (T k).name < 0) : wrongTypeName T k = 0 := by unfold wrongTypeName; simp [h, show ¬ 0 ≤ find k T (T k).name by omega]
theorem find_cases (n : Nat) (T : Nat → LType) (s : ByteArray) : find n T s < 0 ∨ ∃ t : Nat, t < n ∧ find n T s = (t : Int) := by
  rcases idx_cases n (fun j => eqs (T j).name s) with ⟨h, _⟩ | ⟨t, ht, h, _⟩
  · left; unfold find; omega
  · right; exact ⟨t, ht, h⟩

set_option maxHeartbeats 2000000 in
theorem refWrong_any (a : Option Addr) (n cap : Nat) (T : Nat → LType) (w : World) (hT : TypesAt w a n T) (hcap : n ≤ cap) :
    Calls Tryz.prog 72 #[.slice a n cap] w fun e w' => e = .returned (faultV (wrongS n T)) ∧ Below w.heap.size w w' := by
  have hmf : ∀ (fn : Fn) (first cap : Array Value) (w : World), (Instr.makeFunc fn first cap).run Tryz.prog w = .ok (.func fn first cap) w := fun _ _ _ _ => rfl
  have hn : n ≤ 9223372036854775807 := hT.1
  have HT : Hid (TypesAt w a n T) := hT
  clear hT
  by_cases h : 8 < (n : Int)
  · have hfin : Hid (wrongS n T = (4, 0)) := by unfold wrongS Hid; rw [if_pos (by omega)]
    go_enter Tryz.func72, Tryz.ntmps72
    go_wp2_with fail
    exact bodyPost_ret (v := .agg #[.int .i64 4, .int .i64 0]) (by simp [results, Tryz.results72, go_sem]) rfl ⟨by rw [hfin.out]; rfl, below1 _ _⟩
  have HN : Hid (n ≤ 8) := by unfold Hid; omega
  go_enter Tryz.func72, Tryz.ntmps72
  go_wp2_with fail
  go_loopw [16] (fun i wr => ∃ k : Nat, k ≤ n ∧ i = .int .i64 k ∧ Hid (∀ j, j < k → wrongTypeName T j = 0) ∧ FR w wr) (fun i _ => n - (intOf i).toNat)
  case atStart => exact ⟨0, Nat.zero_le _, rfl, (fun j hj => absurd hj (Nat.not_lt_zero _)), FR.start _ _⟩
  case round =>
    obtain ⟨k, hk, rfl, hb, hfr⟩ := hrel
    by_cases hlt : k < n
    · obtain ⟨b, o, ha, t0, t1, -, hs, -⟩ := (HT.out.kept hfr.1).2 k hlt
      subst ha
      have hlt' : (k : Int) < (n : Int) := by omega
      have hk0 : (0 : Int) ≤ (k : Int) := by omega
      have hkc : (k : Int) ≤ (cap : Int) := by omega
      generalize hW : wr.alloc (Obj.cells #[Value.string (T k).name, Value.slice (T k).fa (T k).nf (T k).fcap] 96) = W
      have hB : Below wr.heap.size wr W := by rw [← hW]; exact below1 _ _
      have k0 : W.cell? ⟨wr.heap.size, 0, none⟩ = some (.string (T k).name) := by rw [← hW, World.cell?_alloc_at _ _ _ _ rfl]; rfl
      have hfrW : FR w W := hfr.next hB
      have HFR : Hid (FR w W) := hfrW
      have HTW : Hid (TypesAt W (some ⟨b, o, none⟩) n T) := HT.out.kept hfrW.1
      clear hfr hB hfrW
      have r0 := cell_regrown k0
      have cN : ∀ d os, Calls Tryz.prog 75 #[.string (T k).name] (grow (redrawn W d) os) fun e w'' => e = .returned (.bool (named (T k).name)) ∧ ∃ p : Regrown, w'' = grow (redrawn W p.d) p.os := fun d os => Calls.regrown_of (refNamed_any _ _ hs)
      have cF : ∀ d os, Calls Tryz.prog 103 #[.slice (some ⟨b, o, none⟩) k cap, .string (T k).name] (grow (redrawn W d) os) fun e w'' => e = .returned (typePtr (some ⟨b, o, none⟩) k T (T k).name) ∧ ∃ p : Regrown, w'' = grow (redrawn W p.d) p.os := fun d os => Calls.regrown_of (refType_any _ _ _ T _ _ ((HTW.out.less (Nat.le_of_lt hlt)).kept (below_regrown W d os)))
      have hret : Hid (∀ (d : Nat) (os : Array Obj), FR w (grow (redrawn W d) os)) := fun d os => HFR.out.next (below_regrown W d os)
      cases h1 : named (T k).name
      · have hfin : Hid (wrongS n T = (6, (k : Int))) := wrongS_name HN.out hlt (nameT_bad h1) hb.out
        rw [h1] at cN
        go_wp2_with fail
        clear hW
        refine wp_region_quiet_below (by kernel_rfl) (by kernel_rfl) ?_
        repeat (go_big_quiet_step (first | exact cN _ _ | exact cF _ _))
        refine wpQuiet_nil ?_
        intro _ hw'
        obtain ⟨⟨dq, osq⟩, hw''⟩ := hw'
        subst hw''
        have hfr2 := hret.out dq osq
        generalize grow (redrawn W dq) osq = w2 at hfr2 ⊢
        have HFR2 : Hid (FR w w2) := hfr2
        obtain ⟨-, z1, d0, d1, g0, g1⟩ := hfr2
        clear r0 cN cF t0 t1 k0
        go_wp2_with fail
        exact bodyPost_ret (v := .agg #[.int .i64 6, .int .i64 (k : Int)]) (by simp [results, Tryz.results72, go_sem, d0, d1]) rfl ⟨by rw [hfin.out]; rfl, HFR2.out.set _ _⟩
      · rcases find_cases k T (T k).name with h2 | ⟨t, ht, h2⟩
        · have hb2 : Hid (∀ j, j < k + 1 → wrongTypeName T j = 0) := fun j hj => by
            rcases Nat.lt_succ_iff_lt_or_eq.1 hj with h | h
            · exact hb j h
            · rw [h]; exact nameT_ok h1 h2
          rw [h1] at cN
          rw [typePtr_none h2] at cF
          clear h2
          go_wp2_with fail
          clear hW
          refine wp_region_quiet_below (by kernel_rfl) (by kernel_rfl) ?_
          repeat (go_big_quiet_step (first | exact cN _ _ | exact cF _ _))
          refine wpQuiet_nil ?_
          intro _ hw'
          obtain ⟨⟨dq, osq⟩, hw''⟩ := hw'
          subst hw''
          have hfr2 := hret.out dq osq
          generalize grow (redrawn W dq) osq = w2 at hfr2 ⊢
          have HFR2 : Hid (FR w w2) := hfr2
          obtain ⟨-, z1, d0, d1, g0, g1⟩ := hfr2
          clear r0 cN cF t0 t1 k0
          go_wp2_with fail
          go_roundw
          case rel => exact ⟨k + 1, by omega, by go_num, hb2, HFR2.out⟩
          case measure => simp [intOf]; omega
        · have hfin : Hid (wrongS n T = (6, (k : Int))) := wrongS_name HN.out hlt (nameT_taken h2) hb.out
          rw [h1] at cN
          rw [typePtr_some h2] at cF
          clear h2
          go_wp2_with fail
          clear hW
          refine wp_region_quiet_below (by kernel_rfl) (by kernel_rfl) ?_
          repeat (go_big_quiet_step (first | exact cN _ _ | exact cF _ _))
          refine wpQuiet_nil ?_
          intro _ hw'
          obtain ⟨⟨dq, osq⟩, hw''⟩ := hw'
          subst hw''
          have hfr2 := hret.out dq osq
          generalize grow (redrawn W dq) osq = w2 at hfr2 ⊢
          have HFR2 : Hid (FR w w2) := hfr2
          obtain ⟨-, z1, d0, d1, g0, g1⟩ := hfr2
          clear r0 cN cF t0 t1 k0
          go_wp2_with fail
          exact bodyPost_ret (v := .agg #[.int .i64 6, .int .i64 (k : Int)]) (by simp [results, Tryz.results72, go_sem, d0, d1]) rfl ⟨by rw [hfin.out]; rfl, HFR2.out.set _ _⟩
    · have hb9 : ∀ j, j < n → wrongTypeName T j = 0 := fun j hj => hb.out j (by omega)
      have HS : Hid (wrongS n T = fault n (fun i => wrongFields n T (T i).nf (T i).F)) := wrongS_fields HN.out hb9
      have HFR : Hid (FR w wr) := hfr
      clear hb hfr hb9
      go_wp2_with fail
      go_loopw [39] (fun i wr => ∃ k : Nat, k ≤ n ∧ i = .int .i64 k ∧ Hid (∀ j, j < k → wrongFields n T (T j).nf (T j).F = 0) ∧ FR w wr) (fun i _ => n - (intOf i).toNat)
      case atStart => exact ⟨0, Nat.zero_le _, rfl, (fun j hj => absurd hj (Nat.not_lt_zero _)), HFR.out⟩
      case round =>
        obtain ⟨k, hk, rfl, hb, hfr⟩ := hrel
        by_cases hlt : k < n
        · obtain ⟨b, o, ha, t0, t1, hfcap, hs, hF⟩ := (HT.out.kept hfr.1).2 k hlt
          subst ha
          have hlt' : (k : Int) < (n : Int) := by omega
          have hk0 : (0 : Int) ≤ (k : Int) := by omega
          have hnf : (T k).nf ≤ 9223372036854775807 := hF.1
          generalize (T k).fa = fa at t1 hF
          generalize hW : (wr.alloc (Obj.cells #[Value.int IntKind.i64 (k : Int)] 3)).alloc (Obj.cells #[Value.string (T k).name, Value.slice fa (T k).nf (T k).fcap] 96) = W
          have hB : Below wr.heap.size wr W := by rw [← hW]; exact below2 _ _ _
          have k0 : W.cell? ⟨wr.heap.size, 0, none⟩ = some (.int .i64 (k : Int)) := by rw [← hW, World.cell?_alloc_past _ _ _ (by simp), World.cell?_alloc_at _ _ _ _ rfl]; rfl
          have k1 : W.cell? ⟨wr.heap.size + 1, 1, none⟩ = some (.slice fa (T k).nf (T k).fcap) := by rw [← hW, World.cell?_alloc_at _ _ _ _ (by simp)]; rfl
          have hzW : wr.heap.size + 1 < W.heap.size := by rw [← hW]; simp
          have hfrW : FR w W := hfr.next hB
          have HFRW : Hid (FR w W) := hfrW
          have HTW : Hid (TypesAt W (some ⟨b, o, none⟩) n T) := HT.out.kept hfrW.1
          have HFW : Hid (FieldsAt W fa (T k).nf (T k).F) := hF.kept hB
          have hfin0 : Hid (∀ e : Int, wrongFields n T (T k).nf (T k).F = e → e ≠ 0 → wrongS n T = (e, (k : Int))) := fun e he h0 => by
            rw [HS.out, fault_hit hlt (by rw [he]; exact h0) hb.out, he]
          clear hfr hB hfrW hF
          by_cases h10 : 10 < ((T k).nf : Int)
          · have hfin : Hid (wrongS n T = (4, (k : Int))) := hfin0.out 4 (by unfold wrongFields; rw [if_pos (by omega)]) (by decide)
            go_wp2_with fail
            clear hW
            refine (refWrong1_any 4 (k : Int) _ W k0).mono ?_
            rintro e w2 ⟨rfl, hw2⟩
            have hfr2 := HFRW.out.next hw2
            have HFR2 : Hid (FR w w2) := hfr2
            obtain ⟨-, z1, d0, d1, g0, g1⟩ := hfr2
            clear hw2 k0 k1 t0 t1 hzW
            go_wp2_with fail
            exact bodyPost_ret (v := .agg #[.int .i64 4, .int .i64 (k : Int)]) (by simp [results, Tryz.results72, go_sem, d0, d1]) rfl ⟨by rw [hfin.out]; rfl, HFR2.out.set _ _⟩
          · have HN10 : Hid ((T k).nf ≤ 10) := by unfold Hid; omega
            go_wp2_with fail
            clear hW
            have hbad : Hid (∀ (e : Int) (w4 : World), Below W.heap.size W w4 → Calls Tryz.prog 105 #[.int .i64 e, .pointer (some ⟨wr.heap.size, 0, none⟩)] w4 fun x w' => x = .returned (.agg #[.int .i64 e, .int .i64 (k : Int)]) ∧ FR w w') := fun e w4 h4 =>
              (refWrong1_any e (k : Int) _ w4 (keptCell h4 k0)).mono fun x w' ⟨hx, hw'⟩ => ⟨hx, (HFRW.out.next h4).next hw'⟩
            have K1 : Hid (W.cell? ⟨wr.heap.size + 1, 1, none⟩ = some (.slice fa (T k).nf (T k).fcap)) := k1
            clear t0 t1 k0 k1
            generalize wr.heap.size = B5 at *
            go_loopw [54] (fun i w3 => ∃ j : Nat, j ≤ (T k).nf ∧ i = .int .i64 j ∧ Hid (∀ i, i < j → wrongField n T (T k).F i = 0) ∧ Below W.heap.size W w3) (fun i _ => (T k).nf - (intOf i).toNat)
            case atStart => exact ⟨0, Nat.zero_le _, rfl, (fun j hj => absurd hj (Nat.not_lt_zero _)), Below.refl _ _⟩
            case round =>
              obtain ⟨j, hj, rfl, hbj, hw3⟩ := hrel
              by_cases hjlt : j < (T k).nf
              · obtain ⟨b2, o2, ha, f0, f1, f2, hs0, hs2, -⟩ := (HFW.out.kept hw3).2 j hjlt
                subst ha
                have hjlt' : (j : Int) < ((T k).nf : Int) := by omega
                have hj0 : (0 : Int) ≤ (j : Int) := by omega
                have hjc : (j : Int) ≤ ((T k).fcap : Int) := by omega
                generalize hWq : wr.alloc (Obj.cells #[Value.string ((T k).F j).name, Value.int IntKind.i64 ((T k).F j).kind, Value.string ((T k).F j).type] 113) = W3
                have hB : Below wr.heap.size wr W3 := by rw [← hWq]; exact below1 _ _
                have q0 : W3.cell? ⟨wr.heap.size, 0, none⟩ = some (.string ((T k).F j).name) := by rw [← hWq, World.cell?_alloc_at _ _ _ _ rfl]; rfl
                have q1 : W3.cell? ⟨wr.heap.size, 1, none⟩ = some (.int .i64 ((T k).F j).kind) := by rw [← hWq, World.cell?_alloc_at _ _ _ _ rfl]; rfl
                have q2 : W3.cell? ⟨wr.heap.size, 2, none⟩ = some (.string ((T k).F j).type) := by rw [← hWq, World.cell?_alloc_at _ _ _ _ rfl]; rfl
                have HW3 : Hid (Below W.heap.size W W3) := hw3.trans (hB.mono hw3.size)
                have q3 : W3.cell? ⟨B5 + 1, 1, none⟩ = some (.slice (some ⟨b2, o2, none⟩) (T k).nf (T k).fcap) := keptCell HW3.out K1.out
                have r0 := cell_regrown q0
                have r1 := cell_regrown q1
                have r2 := cell_regrown q2
                have r3 := cell_regrown q3
                have cN : ∀ d os, Calls Tryz.prog 75 #[.string ((T k).F j).name] (grow (redrawn W3 d) os) fun e w'' => e = .returned (.bool (named ((T k).F j).name)) ∧ ∃ p : Regrown, w'' = grow (redrawn W3 p.d) p.os := fun d os => Calls.regrown_of (refNamed_any _ _ hs0)
                have cF : ∀ d os, Calls Tryz.prog 41 #[.slice (some ⟨b2, o2, none⟩) j (T k).fcap, .string ((T k).F j).name] (grow (redrawn W3 d) os) fun e w'' => e = .returned (.bool (decide (0 ≤ fieldIdx j (T k).F ((T k).F j).name))) ∧ ∃ p : Regrown, w'' = grow (redrawn W3 p.d) p.os := fun d os => Calls.regrown_of (refHas_any _ _ _ (T k).F _ _ (((HFW.out.kept HW3.out).less (Nat.le_of_lt hjlt)).kept (below_regrown W3 d os)))
                have hfin1 : Hid (∀ e : Int, wrongField n T (T k).F j = e → e ≠ 0 → wrongS n T = (e, (k : Int))) := fun e he h0 => hfin0.out e (by rw [wrongFields_hit HN10.out hjlt (by rw [he]; exact h0) hbj.out, he]) h0
                have hgo : Hid (wrongField n T (T k).F j = 0 → ∀ i, i < j + 1 → wrongField n T (T k).F i = 0) := fun h0 i hi => by
                  rcases Nat.lt_succ_iff_lt_or_eq.1 hi with h | h
                  · exact hbj i h
                  · rw [h]; exact h0
                clear hB hw3
                cases h1 : named ((T k).F j).name
                · have hfin : Hid (wrongS n T = (6, (k : Int))) := hfin1.out 6 (by unfold wrongField; simp [h1]) (by decide)
                  rw [h1] at cN
                  clear hgo
                  go_wp2_with fail
                  clear hWq
                  refine wp_region_quiet_below (by kernel_rfl) (by kernel_rfl) ?_
                  repeat (go_big_quiet_step (first | exact cN _ _ | exact cF _ _))
                  refine wpQuiet_nil ?_
                  intro _ hw'
                  obtain ⟨⟨dq, osq⟩, hw''⟩ := hw'
                  subst hw''
                  have hb5 : Below W3.heap.size W3 (grow (redrawn W3 dq) osq) := below_regrown W3 dq osq
                  generalize grow (redrawn W3 dq) osq = w5 at hb5 ⊢
                  have HW5 : Hid (Below W.heap.size W w5) := HW3.out.trans (hb5.mono HW3.out.size)
                  have p1 := keptCell hb5 q1
                  have p2 := keptCell hb5 q2
                  have HT5 : Hid (TypesAt w5 (some ⟨b, o, none⟩) n T) := HTW.out.kept HW5.out
                  clear hb5 r0 r1 r2 r3 cN cF q0 q1 q2 q3 f0 f1 f2
                  go_wp2_with fail
                  refine (hbad.out 6 _ HW5.out).mono ?_
                  rintro e w6 ⟨rfl, hfr6⟩
                  have HFR6 : Hid (FR w w6) := hfr6
                  obtain ⟨-, z1, d0, d1, g0, g1⟩ := hfr6
                  go_wp2_with fail
                  exact bodyPost_ret (v := .agg #[.int .i64 6, .int .i64 (k : Int)]) (by simp [results, Tryz.results72, go_sem, d0, d1]) rfl ⟨by rw [hfin.out]; rfl, HFR6.out.set _ _⟩
                cases h2 : decide (0 ≤ fieldIdx j (T k).F ((T k).F j).name)
                case true =>
                  have hfin : Hid (wrongS n T = (6, (k : Int))) := hfin1.out 6 (by unfold wrongField; simp [h2]) (by decide)
                  rw [h1] at cN
                  rw [h2] at cF
                  clear hgo h2
                  go_wp2_with fail
                  clear hWq
                  refine wp_region_quiet_below (by kernel_rfl) (by kernel_rfl) ?_
                  repeat (go_big_quiet_step (first | exact cN _ _ | exact cF _ _))
                  refine wpQuiet_nil ?_
                  intro _ hw'
                  obtain ⟨⟨dq, osq⟩, hw''⟩ := hw'
                  subst hw''
                  have hb5 : Below W3.heap.size W3 (grow (redrawn W3 dq) osq) := below_regrown W3 dq osq
                  generalize grow (redrawn W3 dq) osq = w5 at hb5 ⊢
                  have HW5 : Hid (Below W.heap.size W w5) := HW3.out.trans (hb5.mono HW3.out.size)
                  have p1 := keptCell hb5 q1
                  have p2 := keptCell hb5 q2
                  have HT5 : Hid (TypesAt w5 (some ⟨b, o, none⟩) n T) := HTW.out.kept HW5.out
                  clear hb5 r0 r1 r2 r3 cN cF q0 q1 q2 q3 f0 f1 f2
                  go_wp2_with fail
                  refine (hbad.out 6 _ HW5.out).mono ?_
                  rintro e w6 ⟨rfl, hfr6⟩
                  have HFR6 : Hid (FR w w6) := hfr6
                  obtain ⟨-, z1, d0, d1, g0, g1⟩ := hfr6
                  go_wp2_with fail
                  exact bodyPost_ret (v := .agg #[.int .i64 6, .int .i64 (k : Int)]) (by simp [results, Tryz.results72, go_sem, d0, d1]) rfl ⟨by rw [hfin.out]; rfl, HFR6.out.set _ _⟩
                case false =>
                  have hwf : Hid (wrongField n T (T k).F j = fitOf ((T k).F j).kind ((T k).F j).type (find n T ((T k).F j).type)) := by unfold Hid wrongField; simp [h1, h2]
                  rw [h1] at cN
                  rw [h2] at cF
                  clear h2
                  go_wp2_with fail
                  clear hWq
                  refine wp_region_quiet_below (by kernel_rfl) (by kernel_rfl) ?_
                  repeat (go_big_quiet_step (first | exact cN _ _ | exact cF _ _))
                  refine wpQuiet_nil ?_
                  intro _ hw'
                  obtain ⟨⟨dq, osq⟩, hw''⟩ := hw'
                  subst hw''
                  have hb5 : Below W3.heap.size W3 (grow (redrawn W3 dq) osq) := below_regrown W3 dq osq
                  generalize grow (redrawn W3 dq) osq = w5 at hb5 ⊢
                  have HW5 : Hid (Below W.heap.size W w5) := HW3.out.trans (hb5.mono HW3.out.size)
                  have p1 := keptCell hb5 q1
                  have p2 := keptCell hb5 q2
                  have HT5 : Hid (TypesAt w5 (some ⟨b, o, none⟩) n T) := HTW.out.kept HW5.out
                  clear hb5 r0 r1 r2 r3 cN cF q0 q1 q2 q3 f0 f1 f2
                  go_wp2_with fail
                  · have hfin : Hid (wrongS n T = (7, (k : Int))) := hfin1.out 7 (by rw [hwf.out, fit_7 ‹_› ‹_›]) (by decide)
                    refine (hbad.out 7 _ HW5.out).mono ?_
                    rintro e w6 ⟨rfl, hfr6⟩
                    have HFR6 : Hid (FR w w6) := hfr6
                    obtain ⟨-, z1, d0, d1, g0, g1⟩ := hfr6
                    go_wp2_with fail
                    exact bodyPost_ret (v := .agg #[.int .i64 7, .int .i64 (k : Int)]) (by simp [results, Tryz.results72, go_sem, d0, d1]) rfl ⟨by rw [hfin.out]; rfl, HFR6.out.set _ _⟩
                  · have hq : Hid (∀ i, i < j + 1 → wrongField n T (T k).F i = 0) := hgo.out (by rw [hwf.out, fit_0 ‹_› ‹_›])
                    exact ⟨⟨j + 1, by omega, by go_num, hq, HW5.out⟩, by simp [intOf]; omega⟩
                  · have hfind : Hid (wrongField n T (T k).F j = if find n T ((T k).F j).type < 0 then 5 else 0) := by unfold Hid; rw [hwf.out, fit_find (.inl ‹_›)]
                    have hcT := refType_any (some ⟨b, o, none⟩) n cap T ((T k).F j).type w5 HT5.out
                    rcases find_cases n T ((T k).F j).type with h5 | ⟨t, ht, h5⟩
                    · have hfin : Hid (wrongS n T = (5, (k : Int))) := hfin1.out 5 (by rw [hfind.out, if_pos h5]) (by decide)
                      rw [typePtr_none h5] at hcT
                      clear h5
                      refine hcT.mono ?_
                      clear hcT
                      rintro e w7 ⟨rfl, hw7⟩
                      have HW7 : Hid (Below W.heap.size W w7) := HW5.out.trans (hw7.mono HW5.out.size)
                      clear hw7 p1 p2
                      go_wp2_with fail
                      refine (hbad.out 5 _ HW7.out).mono ?_
                      rintro e w6 ⟨rfl, hfr6⟩
                      have HFR6 : Hid (FR w w6) := hfr6
                      obtain ⟨-, z1, d0, d1, g0, g1⟩ := hfr6
                      go_wp2_with fail
                      exact bodyPost_ret (v := .agg #[.int .i64 5, .int .i64 (k : Int)]) (by simp [results, Tryz.results72, go_sem, d0, d1]) rfl ⟨by rw [hfin.out]; rfl, HFR6.out.set _ _⟩
                    · have hq : Hid (∀ i, i < j + 1 → wrongField n T (T k).F i = 0) := hgo.out (by rw [hfind.out, if_neg (by omega)])
                      rw [typePtr_some h5] at hcT
                      clear h5
                      refine hcT.mono ?_
                      clear hcT
                      rintro e w7 ⟨rfl, hw7⟩
                      have HW7 : Hid (Below W.heap.size W w7) := HW5.out.trans (hw7.mono HW5.out.size)
                      clear hw7 p1 p2
                      go_wp2_with fail
                      exact ⟨⟨j + 1, by omega, by go_num, hq, HW7.out⟩, by simp [intOf]; omega⟩
                  · have hfind : Hid (wrongField n T (T k).F j = if find n T ((T k).F j).type < 0 then 5 else 0) := by unfold Hid; rw [hwf.out, fit_find (.inr ‹_›)]
                    have hcT := refType_any (some ⟨b, o, none⟩) n cap T ((T k).F j).type w5 HT5.out
                    rcases find_cases n T ((T k).F j).type with h5 | ⟨t, ht, h5⟩
                    · have hfin : Hid (wrongS n T = (5, (k : Int))) := hfin1.out 5 (by rw [hfind.out, if_pos h5]) (by decide)
                      rw [typePtr_none h5] at hcT
                      clear h5
                      refine hcT.mono ?_
                      clear hcT
                      rintro e w7 ⟨rfl, hw7⟩
                      have HW7 : Hid (Below W.heap.size W w7) := HW5.out.trans (hw7.mono HW5.out.size)
                      clear hw7 p1 p2
                      go_wp2_with fail
                      refine (hbad.out 5 _ HW7.out).mono ?_
                      rintro e w6 ⟨rfl, hfr6⟩
                      have HFR6 : Hid (FR w w6) := hfr6
                      obtain ⟨-, z1, d0, d1, g0, g1⟩ := hfr6
                      go_wp2_with fail
                      exact bodyPost_ret (v := .agg #[.int .i64 5, .int .i64 (k : Int)]) (by simp [results, Tryz.results72, go_sem, d0, d1]) rfl ⟨by rw [hfin.out]; rfl, HFR6.out.set _ _⟩
                    · have hq : Hid (∀ i, i < j + 1 → wrongField n T (T k).F i = 0) := hgo.out (by rw [hfind.out, if_neg (by omega)])
                      rw [typePtr_some h5] at hcT
                      clear h5
                      refine hcT.mono ?_
                      clear hcT
                      rintro e w7 ⟨rfl, hw7⟩
                      have HW7 : Hid (Below W.heap.size W w7) := HW5.out.trans (hw7.mono HW5.out.size)
                      clear hw7 p1 p2
                      go_wp2_with fail
                      exact ⟨⟨j + 1, by omega, by go_num, hq, HW7.out⟩, by simp [intOf]; omega⟩
                  · have hfin : Hid (wrongS n T = (1, (k : Int))) := hfin1.out 1 (by rw [hwf.out, fit_1 ‹_› ‹_› ‹_›]) (by decide)
                    refine (hbad.out 1 _ HW5.out).mono ?_
                    rintro e w6 ⟨rfl, hfr6⟩
                    have HFR6 : Hid (FR w w6) := hfr6
                    obtain ⟨-, z1, d0, d1, g0, g1⟩ := hfr6
                    go_wp2_with fail
                    exact bodyPost_ret (v := .agg #[.int .i64 1, .int .i64 (k : Int)]) (by simp [results, Tryz.results72, go_sem, d0, d1]) rfl ⟨by rw [hfin.out]; rfl, HFR6.out.set _ _⟩
              · have hz : Hid (wrongFields n T (T k).nf (T k).F = 0) := wrongFields_ok HN10.out (fun i hi => hbj.out i (by omega))
                have hb2 : Hid (∀ j, j < k + 1 → wrongFields n T (T j).nf (T j).F = 0) := fun i hi => by
                  rcases Nat.lt_succ_iff_lt_or_eq.1 hi with h | h
                  · exact hb i h
                  · rw [h]; exact hz.out
                have HFR3 : Hid (FR w wr) := HFRW.out.next hw3
                go_wp2_with fail
                go_roundw
                case rel => exact ⟨k + 1, by omega, by go_num, hb2, HFR3.out⟩
                case measure => simp [intOf]; omega
        · have hfin : Hid (wrongS n T = (0, 0)) := by unfold Hid; rw [HS.out]; exact fault_none fun j hj => hb.out j (by omega)
          have HFR2 : Hid (FR w wr) := hfr
          obtain ⟨-, z1, d0, d1, g0, g1⟩ := hfr
          go_wp2_with fail
          exact bodyPost_ret (v := .agg #[.int .i64 0, .int .i64 0]) (by simp [results, Tryz.results72, go_sem, d0, d1]) rfl ⟨by rw [hfin.out]; rfl, HFR2.out.set _ _⟩
end Go.Proofs.YtjjggefmmeminabGreat
