import Derived.Test.YtjjggefmmeminabMnShapeR
/-
  The walks of stitchlaw6.shape and of stitchlaw6.MeanShape: they answer true.
-/
namespace Go.Proofs.Ytjjggefmmeminab
open Go.RowKit Go.Sort Go.PlainAid

def ShapeOk (d : Nat) : Prop := ∀ (a : Option Addr) (ca : Nat) (M : List (Got d)) (pa : Option Addr) (pc : Nat) (ps : List (Pick d)) (w : World), GotsAt w d a M → PicksAt w d pa ps → Shape d M ps → Calls Try.prog 28 #[.slice a M.length ca, .slice pa ps.length pc] w fun e w' => e = .returned (.bool true) ∧ Below w.heap.size w w'
set_option maxRecDepth 100000 in
set_option maxHeartbeats 400000 in
theorem shape_zero : ShapeOk 0 := by
  intro a ca M pa pc ps w _ _ _
  have h0 := got0 M
  have h1 := nil0 ps
  subst h0 h1
  go_enter Try.func28, Try.ntmps28
  go_wp2_with fail
  go_loopw [16] (fun i wr => i = .int .i64 0 ∧ Below w.heap.size w wr) (fun _ _ => 0)
  case atStart => exact ⟨rfl, Below.refl _ _⟩
  case round =>
    obtain ⟨rfl, hw⟩ := hrel
    go_wp2_with fail
    go_ret
    exact ⟨rfl, hw⟩
set_option maxRecDepth 100000 in
set_option maxHeartbeats 4000000 in
theorem shape_succ (d : Nat) (ih : ShapeOk d) : ShapeOk (d + 1) := by
  intro a ca M pa pc ps w hA hP hSh
  have hlen : M.length = ps.length := hSh.1
  have hn : ps.length ≤ 9223372036854775807 := hP.1
  rw [hlen]
  have HA := Hid.intro hA
  have HP := Hid.intro hP
  have HSH := Hid.intro hSh.2
  have HIH := Hid.intro ih
  have HLE := Hid.intro hlen
  clear hA hP hSh ih hlen
  go_enter Try.func28, Try.ntmps28
  go_wp2_with fail
  go_loopw [16] (fun i wr => ∃ k : Nat, k ≤ ps.length ∧ i = .int .i64 k ∧ Below w.heap.size w wr) (fun i _ => ps.length - (intOf i).toNat)
  case atStart => exact ⟨0, Nat.zero_le _, rfl, Below.refl _ _⟩
  case round =>
    obtain ⟨k, hk, rfl, hw⟩ := hrel
    by_cases hlt : k < ps.length
    · obtain ⟨g, o, A, C, B, D, rfl, c0, c1, c2, c3, c4, c5, -, -, hsA, hsB⟩ := (HA.out.kept hw).2 k (by rw [HLE.out]; exact hlt)
      obtain ⟨g2, o2, PA, PC, rfl, q0, q1, q2, -, -, -, hPs⟩ := (HP.out.kept hw).2 k hlt
      obtain ⟨hnm, hnull, hkind⟩ := HSH.out k hlt
      have hlt' : (k : Int) < (ps.length : Int) := by omega
      have hk0 : (0 : Int) ≤ (k : Int) := by omega
      have hql : g2 < wr.heap.size := block_lt_of_cell q0
      generalize hX : wr.alloc (Obj.cells #[.string (gName (gotN M k)), .int .i64 (gKind (gotN M k)), .bool (gNull (gotN M k)), .string (gText (gotN M k)), .slice A (gSub (gotN M k)).length C, .slice B (gSubs (gotN M k)).length D] 66) = X
      have hBX : Below wr.heap.size wr X := by rw [← hX]; exact below1 _ _
      have hbx : X.heap[wr.heap.size]? = some (.cells #[.string (gName (gotN M k)), .int .i64 (gKind (gotN M k)), .bool (gNull (gotN M k)), .string (gText (gotN M k)), .slice A (gSub (gotN M k)).length C, .slice B (gSubs (gotN M k)).length D] 66 (0, 0)) := by rw [← hX]; exact heap_alloc_new _ _
      have HBX := Hid.intro hBX
      have HQ0 := Hid.intro (keptCell hBX q0)
      have HQ1 := Hid.intro (keptCell hBX q1)
      have HQ2 := Hid.intro (keptCell hBX q2)
      have HBOX := Hid.intro hbx
      have HSA := Hid.intro hsA
      have HSB := Hid.intro hsB
      have HPS := Hid.intro hPs
      have HNM := Hid.intro hnm
      have HNU := Hid.intro hnull
      have HKI := Hid.intro hkind
      have HW := Hid.intro hw
      clear hsA hsB hPs hnm hnull hkind hBX hbx hw q0 q1 q2
      go_upto_region 6 with fail
      clear hX c0 c1 c2 c3 c4 c5
      refine shName (b := wr.heap.size) (g := g2) (o := o2) (n := ps.length) (pc := pc) (k := k) (nm := gName (gotN M k)) (by kernel_rfl) rfl rfl rfl hlt (by simp [World.cell?, HBOX.out]) HQ0.out HQ1.out HQ2.out (fun w1 _ => by rw [HNM.out]; exact rcalled_any d (pickN ps k) PA (subs (pickN ps k)).length PC w1) ?_
      intro s w2 hB2 hs28
      have hbx2 := (hB2.block _ (lt_of_block HBOX.out)).trans HBOX.out
      have q2 := keptCell hB2 HQ2.out
      have hBw : Below w.heap.size w w2 := HW.out.trans ((HBX.out.trans (hB2.mono HBX.out.size)).mono HW.out.size)
      have hBr : Below wr.heap.size wr w2 := HBX.out.trans (hB2.mono HBX.out.size)
      have HSA2 := Hid.intro (HSA.out.kept hBr)
      have HSB2 : Hid (SubsAt w2 (GotsAt w2 d) B (gSubs (gotN M k))) := Hid.intro ⟨HSB.out.1, fun j hj => let ⟨b2, o2, A3, C3, e2, d0, l3, h3⟩ := HSB.out.2 j hj; ⟨b2, o2, A3, C3, e2, keptCell hBr d0, l3, h3.kept hBr⟩⟩
      have HPS2 := Hid.intro (HPS.out.kept hBr)
      have HBW := Hid.intro hBw
      obtain ⟨x0, x1, x2, x3, x4, x5⟩ : w2.cell? ⟨wr.heap.size, 0, none⟩ = some (.string (gName (gotN M k))) ∧ w2.cell? ⟨wr.heap.size, 1, none⟩ = some (.int .i64 (gKind (gotN M k))) ∧ w2.cell? ⟨wr.heap.size, 2, none⟩ = some (.bool (gNull (gotN M k))) ∧ w2.cell? ⟨wr.heap.size, 3, none⟩ = some (.string (gText (gotN M k))) ∧ w2.cell? ⟨wr.heap.size, 4, none⟩ = some (.slice A (gSub (gotN M k)).length C) ∧ w2.cell? ⟨wr.heap.size, 5, none⟩ = some (.slice B (gSubs (gotN M k)).length D) := by simp [World.cell?, hbx2]
      clear hB2 hbx2 hBw hBr HSA HSB HPS HBX HQ0 HQ1 HQ2 HBOX HW HNM x0
      obtain ⟨bx, hbx⟩ : ∃ bx, bx = wr.heap.size := ⟨_, rfl⟩
      rw [← hbx] at x1 x2 x3 x4 x5
      simp only [putAll, Act.put, List.setIfInBounds_toArray, List.set_cons_succ, List.set_cons_zero, hs28, ← hbx]
      clear hbx hs28
      generalize s 21 = t21
      generalize s 22 = t22
      generalize s 23 = t23
      generalize s 24 = t24
      generalize s 25 = t25
      generalize s 26 = t26
      generalize s 27 = t27
      generalize gotN M k = gg at *
      generalize hpk : subs (pickN ps k) = sps at *
      clear hpk
      rcases HKI.out with ⟨hk1, hs0, hss0, hp0⟩ | ⟨hk2, ht0, hss0, hsh⟩ | ⟨hk3, ht0, hs0, hsh⟩
      · rw [hk1] at x1
        rw [hs0] at x4
        rw [hss0] at x5
        rw [hp0] at q2
        simp only [List.length_nil] at x4 x5 q2
        cases hnl : gNull gg with
        | false =>
          rw [hnl] at x2
          clear HSA2 HSB2 HPS2 HNU HKI hs0 hss0 hp0 hnl hk1
          go_wp2_with fail
          go_quiet (fail)
          go_wp2_with fail
          go_roundw
          case rel => exact ⟨k + 1, by omega, by go_num, HBW.out.trans ((below_drewN _ _).mono HBW.out.size)⟩
          case measure => simp [intOf]; omega
        | true =>
          obtain ⟨ht0, -, -⟩ := HNU.out hnl
          rw [hnl] at x2
          rw [ht0] at x3
          clear HSA2 HSB2 HPS2 HNU HKI hs0 hss0 hp0 hnl ht0 hk1
          go_wp2_with fail
          go_quiet (fail)
          go_wp2_with fail
          go_roundw
          case rel => exact ⟨k + 1, by omega, by go_num, HBW.out.trans ((below_drewN _ _).mono HBW.out.size)⟩
          case measure => simp [intOf]; omega
      · rw [hk2] at x1
        rw [ht0] at x3
        rw [hss0] at x5
        simp only [List.length_nil] at x5
        cases hnl : gNull gg with
        | false =>
          have HSH2 := Hid.intro (hsh hnl)
          rw [hnl] at x2
          clear HSB2 HNU HKI ht0 hss0 hnl hk2 hsh
          have HX2 := Hid.intro x2
          have HX3 := Hid.intro x3
          have HX4 := Hid.intro x4
          have HX5 := Hid.intro x5
          have HQ2 := Hid.intro q2
          go_upto_region 16 with fail
          clear x2 x3 x4 x5 q2 x1
          refine shOne (b := bx) (g := g2) (o := o2) (n := ps.length) (pc := pc) (k := k) (by kernel_rfl) rfl rfl rfl hlt HX3.out HX2.out HX4.out HX5.out HQ2.out (fun w1 h1 => HIH.out A C (gSub gg) PA PC sps w1 (HSA2.out.kept h1) (HPS2.out.kept h1) HSH2.out) ?_
          intro s w3 hB3 hs91
          have HB3 := Hid.intro (HBW.out.trans (hB3.mono HBW.out.size))
          clear hB3 HX2 HX3 HX4 HX5 HQ2 HSA2 HPS2 HSH2
          simp only [putAll, Act.put, List.setIfInBounds_toArray, List.set_cons_succ, List.set_cons_zero, hs91]
          generalize s 67 = t67
          generalize s 68 = t68
          generalize s 69 = t69
          generalize s 70 = t70
          generalize s 71 = t71
          generalize s 72 = t72
          generalize s 73 = t73
          generalize s 74 = t74
          generalize s 75 = t75
          generalize s 76 = t76
          generalize s 77 = t77
          generalize s 78 = t78
          generalize s 79 = t79
          generalize s 80 = t80
          generalize s 81 = t81
          generalize s 82 = t82
          generalize s 83 = t83
          generalize s 84 = t84
          generalize s 85 = t85
          generalize s 86 = t86
          generalize s 87 = t87
          generalize s 88 = t88
          generalize s 89 = t89
          generalize s 90 = t90
          go_wp2_with fail
          go_roundw
          case rel => exact ⟨k + 1, by omega, by go_num, HB3.out⟩
          case measure => simp [intOf]; omega
        | true =>
          obtain ⟨-, hs0, -⟩ := HNU.out hnl
          rw [hnl] at x2
          rw [hs0] at x4
          simp only [List.length_nil] at x4
          clear HSA2 HSB2 HPS2 HNU HKI ht0 hss0 hnl hs0 hsh hk2
          go_wp2_with fail
          go_quiet (fail)
          go_wp2_with fail
          go_roundw
          case rel => exact ⟨k + 1, by omega, by go_num, HBW.out.trans ((below_drewN _ _).mono HBW.out.size)⟩
          case measure => simp [intOf]; omega
      · have HSH3 := Hid.intro hsh
        rw [hk3] at x1
        rw [ht0] at x3
        rw [hs0] at x4
        simp only [List.length_nil] at x4
        have hsl : (gSubs gg).length ≤ 9223372036854775807 := HSB2.out.1
        have HNN : Hid (gNull gg = true → (gSubs gg).length = 0) := Hid.intro fun h => by rw [(HNU.out h).2.2]; rfl
        clear HSA2 HNU HKI ht0 hs0 hk3 hsh
        have hgo : (gNull gg = true ∧ (gSubs gg).length = 0) ∨ gNull gg = false := by
          cases h : gNull gg with
          | false => exact .inr rfl
          | true => exact .inl ⟨rfl, HNN.out h⟩
        have HQ2 := Hid.intro q2
        clear HNN
        rcases hgo with ⟨hnl, hm0⟩ | hnl
        · rw [hnl] at x2
          rw [hm0] at x5
          clear hnl HQ2 q2 HSB2 HPS2 HSH3 hsl
          go_wp2_with fail
          go_loopw [106] (fun i wq => i = .int .i64 0 ∧ Below w2.heap.size w2 wq) (fun _ _ => 0)
          case atStart => exact ⟨rfl, Below.refl _ _⟩
          case round =>
            obtain ⟨rfl, hwq⟩ := hrel
            have HWE := Hid.intro (HBW.out.trans (hwq.mono HBW.out.size))
            clear hwq
            go_wp2_with fail
            go_roundw
            case rel => exact ⟨k + 1, by omega, by go_num, HWE.out⟩
            case measure => simp [intOf]; omega
        · rw [hnl] at x2
          clear hnl q2
          go_wp2_with fail
          clear x1 x2 x3 x4 x5
          go_loopw [106] (fun i wq => ∃ j : Nat, j ≤ (gSubs gg).length ∧ i = .int .i64 j ∧ Below w2.heap.size w2 wq) (fun i _ => (gSubs gg).length - (intOf i).toNat)
          case atStart => exact ⟨0, Nat.zero_le _, rfl, Below.refl _ _⟩
          case round =>
            obtain ⟨j, hj, rfl, hwq⟩ := hrel
            by_cases hjt : j < (gSubs gg).length
            · obtain ⟨p, q, A2, E2, rfl, ea, -, hG⟩ := HSB2.out.2 j hjt
              have hjt' : (j : Int) < ((gSubs gg).length : Int) := by omega
              have hj0 : (0 : Int) ≤ (j : Int) := by omega
              have ea := keptCell hwq ea
              have q2 := keptCell hwq HQ2.out
              have hcl := HIH.out A2 E2 (subN (gSubs gg) j) PA PC sps wr (hG.kept hwq) (HPS2.out.kept hwq) (HSH3.out _ (by rw [subN_get hjt]; exact List.getElem_mem hjt))
              have HWQ := Hid.intro hwq
              clear hG hwq
              generalize (subN (gSubs gg) j).length = mm at *
              go_wp2_with fail
              refine hcl.mono ?_
              clear hcl
              rintro e w4 ⟨rfl, hw4⟩
              have HW4 := Hid.intro (HWQ.out.trans (hw4.mono HWQ.out.size))
              clear hw4 ea q2 HWQ
              go_wp2_with fail
              go_roundw
              case rel => exact ⟨j + 1, by omega, by go_num, HW4.out⟩
              case measure => simp [intOf]; omega
            · have HWE := Hid.intro (HBW.out.trans (hwq.mono HBW.out.size))
              clear hwq
              go_wp2_with fail
              go_roundw
              case rel => exact ⟨k + 1, by omega, by go_num, HWE.out⟩
              case measure => simp [intOf]; omega
    · go_wp2_with fail
      go_ret
      exact ⟨rfl, hw⟩
theorem shape_any : ∀ d, ShapeOk d
  | 0 => shape_zero
  | d + 1 => shape_succ d (shape_any d)

set_option maxRecDepth 100000 in
set_option maxHeartbeats 4000000 in
theorem meanShape_any (a : Option Addr) (n cap : Nat) (V : Nat → LServ) (d : Nat) (type key : ByteArray) (pa : Option Addr) (pcap : Nat) (ps : List (Pick d)) (w : World) (hS : ServsAt w a n V) (hP : PicksAt w d pa ps) (hcap : ps.length ≤ pcap) (hs0 : Small type) (hs1 : Small key) :
    Calls Try.prog 10 #[.slice a n cap, .agg #[.string type, .string key, .slice pa ps.length pcap]] w fun e w' => e = .returned (.bool true) ∧ Below w.heap.size w w' := by
  have HS := Hid.intro hS
  have HP := Hid.intro hP
  generalize hW : w.alloc (Obj.cells #[.string type, .string key, .slice pa ps.length pcap] 24) = W
  have hBW : Below w.heap.size w W := by rw [← hW]; exact below1 _ _
  have a0 : W.cell? ⟨w.heap.size, 0, none⟩ = some (.string type) := by rw [← hW, World.cell?_alloc_at _ _ _ _ rfl]; rfl
  have a1 : W.cell? ⟨w.heap.size, 1, none⟩ = some (.string key) := by rw [← hW, World.cell?_alloc_at _ _ _ _ rfl]; rfl
  have a2 : W.cell? ⟨w.heap.size, 2, none⟩ = some (.slice pa ps.length pcap) := by rw [← hW, World.cell?_alloc_at _ _ _ _ rfl]; rfl
  have hcl := alive6_any W
  have HBW := Hid.intro hBW
  clear hS hP hBW
  go_enter Try.func10, Try.ntmps10
  go_wp2_with fail
  clear hW
  refine hcl.mono ?_
  clear hcl
  rintro e w1 ⟨rfl, hw1⟩
  have hB1 := HBW.out.trans (hw1.mono HBW.out.size)
  have HB1 := Hid.intro hB1
  have a0 := keptCell hw1 a0
  have a1 := keptCell hw1 a1
  have a2 := keptCell hw1 a2
  have hcl := mean_any a n cap V d type key pa pcap ps w1 (HS.out.kept hB1) (HP.out.kept hB1) hcap hs0 hs1
  have HSHP : Hid (meanE n V d type key ps = 0 → Shape d (meanG n V d type key ps) ps) := Hid.intro fun h => mean_shape h
  have HNO : Hid (meanE n V d type key ps ≠ 0 → (meanG n V d type key ps).length = 0) := Hid.intro fun h => by unfold meanG; rw [if_neg h]; rfl
  have HP1 := Hid.intro (HP.out.kept hB1)
  clear hw1 hB1 HBW HS HP
  generalize meanG n V d type key ps = M at *
  generalize meanE n V d type key ps = x at *
  go_wp2_with fail
  refine hcl.mono ?_
  clear hcl
  rintro e w2 ⟨⟨va, vc, rfl, hc, ho⟩, hw2⟩
  have a2 := keptCell hw2 a2
  have HB2 := Hid.intro (HB1.out.trans (hw2.mono HB1.out.size))
  by_cases h0 : x = 0
  · subst h0
    have hcl := shape_any d va vc M pa pcap ps w2 ho.free.at (HP1.out.kept hw2) (HSHP.out rfl)
    clear ho hw2 HSHP HNO HP1 HB1
    go_wp2_with fail
    refine hcl.mono ?_
    clear hcl
    rintro e w3 ⟨rfl, hw3⟩
    have HB3 := Hid.intro (HB2.out.trans (hw3.mono HB2.out.size))
    clear hw3
    go_wp2_with fail
    go_ret
    exact ⟨rfl, HB3.out⟩
  · have hb : (x != 0) = true := by simpa using h0
    have hl0 := HNO.out h0
    rw [hl0]
    clear ho hw2 HSHP HNO HP1 HB1 h0 hl0
    go_wp2_with fail
    go_ret
    exact ⟨rfl, HB2.out⟩
end Go.Proofs.Ytjjggefmmeminab
