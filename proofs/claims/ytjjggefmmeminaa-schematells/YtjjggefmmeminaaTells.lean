/-
  The walk of stitchlaw1.SchemaTells: it answers true, and keeps what is there.
-/
import Derived.Test.YtjjggefmmeminaaRefThings
namespace Go.Proofs.Ytjjggefmmeminaa
open Go.RowKit Go.Sort Go.PlainAid

theorem find_at {n t : Nat} {T : Nat → LType} {name : ByteArray} (h : find n T name = (t : Int)) : eqs (T t).name name = true ∧ find t T name < 0 := by
  unfold find at *
  rcases idx_cases n (fun i => eqs (T i).name name) with ⟨e, _⟩ | ⟨k, hk, e, h1, h2⟩
  · omega
  · have : k = t := by omega
    subst this
    exact ⟨h1, idx_neg.2 h2⟩

set_option maxHeartbeats 2000000 in
theorem tells_any (a xa : Option Addr) (n cap m xcap : Nat) (T : Nat → LType) (X : Nat → LThing) (name : ByteArray) (w : World) (hT : TypesAt w a n T) (hX : ThingsAt w xa m X) (hcap : n ≤ cap) (hxcap : m ≤ xcap) (hs : Small name) :
    Calls Try.prog 3 #[.slice a n cap, .slice xa m xcap, .string name] w fun e w' => e = .returned (.bool true) ∧ Below w.heap.size w w' := by
  have hfd := field0_run
  have hn : n ≤ 9223372036854775807 := hT.1
  have HT : Hid (TypesAt w a n T) := hT
  have HX : Hid (ThingsAt w xa m X) := hX
  clear hT hX
  go_enter Try.func3, Try.ntmps3
  go_wp2_with fail
  refine (named_any name w hs).mono ?_
  rintro e w1 ⟨rfl, hB1⟩
  go_wp2_with fail
  refine (refNamed_any name w1 hs).mono ?_
  rintro e w2 ⟨rfl, hw2⟩
  have hB2 := hB1.trans (hw2.mono hB1.size)
  clear hw2 hB1
  generalize named name = q
  have hq : (q != q) = false := by cases q <;> rfl
  go_wp2_with fail
  refine (find_any a n cap T name w2 (HT.out.kept hB2)).mono ?_
  rintro e w3 ⟨rfl, hw3⟩
  have hB3 := hB2.trans (hw3.mono hB2.size)
  clear hw3 hB2
  go_wp2_with fail
  have hcT := refType_any a n cap T name w3 (HT.out.kept hB3)
  rcases find_cases n T name with h5 | ⟨t, ht, h5⟩
  · rw [typePtr_none h5] at hcT
    refine hcT.mono ?_
    clear hcT
    rintro e w4 ⟨rfl, hw4⟩
    have hB4 := hB3.trans (hw4.mono hB3.size)
    clear hw4 hB3
    go_wp2_with fail
    refine (wrong_any a n cap T w4 (HT.out.kept hB4) hcap).mono ?_
    rintro e w5 ⟨rfl, hw5⟩
    have hB5 := hB4.trans (hw5.mono hB4.size)
    clear hw5 hB4
    go_wp2_with fail
    refine (refWrong_any a n cap T w5 (HT.out.kept hB5) hcap).mono ?_
    rintro e w6 ⟨rfl, hw6⟩
    have hB6 := hB5.trans (hw6.mono hB5.size)
    clear hw6 hB5
    generalize hz : wrongS n T = z
    have HZ : Hid (wrongS n T = z) := hz
    clear hz
    unfold faultV
    go_wp2_with fail
    refine (find_any a n cap T name w6 (HT.out.kept hB6)).mono ?_
    rintro e w7 ⟨rfl, hw7⟩
    have hB7 := hB6.trans (hw7.mono hB6.size)
    clear hw7 hB6
    go_wp2_with fail
    go_loopw [63] (fun i wr => ∃ k : Nat, k ≤ n ∧ i = .int .i64 k ∧ Below w.heap.size w wr) (fun i _ => n - (intOf i).toNat)
    case atStart => exact ⟨0, Nat.zero_le _, rfl, hB7⟩
    case round =>
      obtain ⟨k, hk, rfl, hw⟩ := hrel
      by_cases hlt : k < n
      · obtain ⟨b, o, ha, t0, t1, -, -, hF⟩ := (HT.out.kept hw).2 k hlt
        subst ha
        have hlt' : (k : Int) < (n : Int) := by omega
        have hk0 : (0 : Int) ≤ (k : Int) := by omega
        generalize hW : wr.alloc (Obj.cells #[Value.string (T k).name, Value.slice (T k).fa (T k).nf (T k).fcap] 34) = W
        have hB : Below wr.heap.size wr W := by rw [← hW]; exact below1 _ _
        have k1 : W.cell? ⟨wr.heap.size, 1, none⟩ = some (.slice (T k).fa (T k).nf (T k).fcap) := by rw [← hW, World.cell?_alloc_at _ _ _ _ rfl]; rfl
        have HB : Hid (Below w.heap.size w W) := hw.trans (hB.mono hw.size)
        have r1 := cell_regrown k1
        have cA : ∀ d os, Calls Try.prog 21 #[.slice (T k).fa (T k).nf (T k).fcap, .string name] (grow (redrawn W d) os) fun e w'' => e = .returned (.int .i64 (fieldIdx (T k).nf (T k).F name)) ∧ ∃ p : Regrown, w'' = grow (redrawn W p.d) p.os := fun d os => Calls.regrown_of (field_any _ _ _ (T k).F _ _ ((hF.kept hB).kept (below_regrown W d os)))
        have cB : ∀ d os, Calls Try.prog 22 #[.slice (T k).fa (T k).nf (T k).fcap, .string name] (grow (redrawn W d) os) fun e w'' => e = .returned (.int .i64 (fieldIdx (T k).nf (T k).F name)) ∧ ∃ p : Regrown, w'' = grow (redrawn W p.d) p.os := fun d os => Calls.regrown_of (refAt_any _ _ _ (T k).F _ _ ((hF.kept hB).kept (below_regrown W d os)))
        clear hw hB hF
        generalize fieldIdx (T k).nf (T k).F name = fi at *
        go_wp2_with fail
        clear hW
        refine wp_region_quiet_below (by kernel_rfl) (by kernel_rfl) ?_
        repeat (go_big_quiet_step (first | exact cA _ _ | exact cB _ _))
        refine wpQuiet_nil ?_
        intro _ hw'
        obtain ⟨⟨dq, osq⟩, hw''⟩ := hw'
        subst hw''
        have hb2 := below_regrown W dq osq
        have HB2 : Hid (Below w.heap.size w (grow (redrawn W dq) osq)) := HB.out.trans (hb2.mono HB.out.size)
        clear hb2 r1 cA cB k1 t0 t1
        go_wp2_with fail
        go_roundw
        case rel => exact ⟨k + 1, by omega, by go_num, HB2.out⟩
        case measure => simp [intOf]; omega
      · go_wp2_with fail
        refine (refWrong_any a n cap T wr (HT.out.kept hw) hcap).mono ?_
        rintro e w8 ⟨rfl, hw8⟩
        have hB8 := hw.trans (hw8.mono hw.size)
        clear hw8 hw
        rw [HZ.out]
        unfold faultV
        by_cases hz0 : z.1 = 0
        case neg =>
          have hzb : (z.1 != 0) = true := by simpa using hz0
          clear hz0
          go_wp2_with fail
          go_ret
          exact ⟨rfl, hB8⟩
        have hzb : (z.1 != 0) = false := by simpa using hz0
        clear hz0
        go_wp2_with fail
        refine (things_any a xa n cap m xcap T X w8 (HT.out.kept hB8) (HX.out.kept hB8) hxcap).mono ?_
        rintro e w9 ⟨rfl, hw9⟩
        have hB9 := hB8.trans (hw9.mono hB8.size)
        clear hw9 hB8
        go_wp2_with fail
        refine (refThings_any a xa n cap m xcap T X w9 (HT.out.kept hB9) (HX.out.kept hB9) hxcap).mono ?_
        rintro e w10 ⟨rfl, hw10⟩
        have hB10 := hB9.trans (hw10.mono hB9.size)
        clear hw10 hB9
        generalize wrongThings n T m X = y
        unfold faultV
        go_wp2_with fail
        go_ret
        exact ⟨rfl, hB10⟩
  · obtain ⟨b0, o0, ha, n0, -⟩ := HT.out.2 t ht
    subst ha
    rw [typePtr_some h5] at hcT
    have H5 : Hid (find n T name = (t : Int)) := h5
    have ht' : (t : Int) < (n : Int) := by omega
    have htc : (t : Int) ≤ (cap : Int) := by omega
    have ht0 : (0 : Int) ≤ (t : Int) := by omega
    rw [h5]
    clear h5
    refine hcT.mono ?_
    clear hcT
    rintro e w4 ⟨rfl, hw4⟩
    have hB4 := hB3.trans (hw4.mono hB3.size)
    clear hw4 hB3
    go_wp2_with fail
    refine (wrong_any (some ⟨b0, o0, none⟩) n cap T w4 (HT.out.kept hB4) hcap).mono ?_
    rintro e w5 ⟨rfl, hw5⟩
    have hB5 := hB4.trans (hw5.mono hB4.size)
    clear hw5 hB4
    go_wp2_with fail
    refine (refWrong_any (some ⟨b0, o0, none⟩) n cap T w5 (HT.out.kept hB5) hcap).mono ?_
    rintro e w6 ⟨rfl, hw6⟩
    have hB6 := hB5.trans (hw6.mono hB5.size)
    clear hw6 hB5
    generalize hz : wrongS n T = z
    have HZ : Hid (wrongS n T = z) := hz
    clear hz
    unfold faultV
    go_wp2_with fail
    have hcf := find_any (some ⟨b0, o0, none⟩) n cap T name w6 (HT.out.kept hB6)
    rw [H5.out] at hcf
    refine hcf.mono ?_
    clear hcf
    rintro e w7 ⟨rfl, hw7⟩
    have hB7 := hB6.trans (hw7.mono hB6.size)
    clear hw7 hB6
    obtain ⟨h7, h8⟩ := find_at H5.out
    have n7 := keptCell hB7 n0
    have hcT2 := refType_any (some ⟨b0, o0, none⟩) t cap T name w7 ((HT.out.kept hB7).less (Nat.le_of_lt ht))
    rw [typePtr_none h8] at hcT2
    have h7b : ((T t).name.toList == name.toList) = true := by rw [eqs_eq]; exact h7
    clear h7 h8
    go_wp2_with fail
    refine hcT2.mono ?_
    clear hcT2
    rintro e w7b ⟨rfl, hw7⟩
    have hB7b := hB7.trans (hw7.mono hB7.size)
    clear hw7 hB7 n7
    go_wp2_with fail
    go_loopw [63] (fun i wr => ∃ k : Nat, k ≤ n ∧ i = .int .i64 k ∧ Below w.heap.size w wr) (fun i _ => n - (intOf i).toNat)
    case atStart => exact ⟨0, Nat.zero_le _, rfl, hB7b⟩
    case round =>
      obtain ⟨k, hk, rfl, hw⟩ := hrel
      by_cases hlt : k < n
      · obtain ⟨b, o, ha, t0, t1, -, -, hF⟩ := (HT.out.kept hw).2 k hlt
        cases ha
        have hlt' : (k : Int) < (n : Int) := by omega
        have hk0 : (0 : Int) ≤ (k : Int) := by omega
        generalize hW : wr.alloc (Obj.cells #[Value.string (T k).name, Value.slice (T k).fa (T k).nf (T k).fcap] 34) = W
        have hB : Below wr.heap.size wr W := by rw [← hW]; exact below1 _ _
        have k1 : W.cell? ⟨wr.heap.size, 1, none⟩ = some (.slice (T k).fa (T k).nf (T k).fcap) := by rw [← hW, World.cell?_alloc_at _ _ _ _ rfl]; rfl
        have HB : Hid (Below w.heap.size w W) := hw.trans (hB.mono hw.size)
        have r1 := cell_regrown k1
        have cA : ∀ d os, Calls Try.prog 21 #[.slice (T k).fa (T k).nf (T k).fcap, .string name] (grow (redrawn W d) os) fun e w'' => e = .returned (.int .i64 (fieldIdx (T k).nf (T k).F name)) ∧ ∃ p : Regrown, w'' = grow (redrawn W p.d) p.os := fun d os => Calls.regrown_of (field_any _ _ _ (T k).F _ _ ((hF.kept hB).kept (below_regrown W d os)))
        have cB : ∀ d os, Calls Try.prog 22 #[.slice (T k).fa (T k).nf (T k).fcap, .string name] (grow (redrawn W d) os) fun e w'' => e = .returned (.int .i64 (fieldIdx (T k).nf (T k).F name)) ∧ ∃ p : Regrown, w'' = grow (redrawn W p.d) p.os := fun d os => Calls.regrown_of (refAt_any _ _ _ (T k).F _ _ ((hF.kept hB).kept (below_regrown W d os)))
        clear hw hB hF
        generalize fieldIdx (T k).nf (T k).F name = fi at *
        go_wp2_with fail
        clear hW
        refine wp_region_quiet_below (by kernel_rfl) (by kernel_rfl) ?_
        repeat (go_big_quiet_step (first | exact cA _ _ | exact cB _ _))
        refine wpQuiet_nil ?_
        intro _ hw'
        obtain ⟨⟨dq, osq⟩, hw''⟩ := hw'
        subst hw''
        have hb2 := below_regrown W dq osq
        have HB2 : Hid (Below w.heap.size w (grow (redrawn W dq) osq)) := HB.out.trans (hb2.mono HB.out.size)
        clear hb2 r1 cA cB k1 t0 t1
        go_wp2_with fail
        go_roundw
        case rel => exact ⟨k + 1, by omega, by go_num, HB2.out⟩
        case measure => simp [intOf]; omega
      · go_wp2_with fail
        refine (refWrong_any (some ⟨b0, o0, none⟩) n cap T wr (HT.out.kept hw) hcap).mono ?_
        rintro e w8 ⟨rfl, hw8⟩
        have hB8 := hw.trans (hw8.mono hw.size)
        clear hw8 hw
        rw [HZ.out]
        unfold faultV
        by_cases hz0 : z.1 = 0
        case neg =>
          have hzb : (z.1 != 0) = true := by simpa using hz0
          clear hz0
          go_wp2_with fail
          go_ret
          exact ⟨rfl, hB8⟩
        have hzb : (z.1 != 0) = false := by simpa using hz0
        clear hz0
        go_wp2_with fail
        refine (things_any (some ⟨b0, o0, none⟩) xa n cap m xcap T X w8 (HT.out.kept hB8) (HX.out.kept hB8) hxcap).mono ?_
        rintro e w9 ⟨rfl, hw9⟩
        have hB9 := hB8.trans (hw9.mono hB8.size)
        clear hw9 hB8
        go_wp2_with fail
        refine (refThings_any (some ⟨b0, o0, none⟩) xa n cap m xcap T X w9 (HT.out.kept hB9) (HX.out.kept hB9) hxcap).mono ?_
        rintro e w10 ⟨rfl, hw10⟩
        have hB10 := hB9.trans (hw10.mono hB9.size)
        clear hw10 hB9
        generalize wrongThings n T m X = y
        unfold faultV
        go_wp2_with fail
        go_ret
        exact ⟨rfl, hB10⟩
end Go.Proofs.Ytjjggefmmeminaa
