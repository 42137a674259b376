import Derived.Test.YtjjggefmmeminacGtAlive
import Derived.Test.YtjjggefmmeminacGtRightW
import Derived.Test.YtjjggefmmeminacGtHidReg
import Derived.Deep.CutRange
/-
  The walk of stitchlaw7.GateHidden, of a gate.Run that keeps its promise: it answers true.
-/
namespace Go.Proofs.Ytjjggefmmeminac
open Go.RowKit Go.Sort Go.PlainAid

theorem hidden_plain {n : Nat} {V : Nat → LServ} {d : Nat} {type key : ByteArray} {ps : List (Pick d)} (h : meanE n V d type key ps = 0) : (∀ j, j < n → (seeE (V j)).1 = 0) ∧ ∀ r, r ∈ reqs n V d type key ps → ReqR n V r := by
  obtain ⟨h0, -, -⟩ := meanE_zero.1 h
  exact ⟨fun j hj => ((wrongF_ok (allF_wrong h0)).2 j hj).1, (reqs_right h).2⟩
theorem toList_self (a : ByteArray) : (a.toList == a.toList) = true := by simp

/-- What stands when j effects of the region are done; o is the block of the new variable. -/
structure HidP (W0 : World) (nt : Nat) (S : Nat → PSeen) (g : Int) (j : Nat) (x : Nat → Value) (o : Option Nat) (w : World) : Prop where
  below : Below W0.heap.size W0 w
  box : ∀ b, o = some b → W0.heap.size ≤ b ∧ w.heap[b]? = some (.cells #[.int .i64 0, .int .i64 (if j = 5 then g else 0)] 40 (0, 0))
  two : j = 5 → o ≠ none
  seen : 1 ≤ j → ∃ sa sc fv ov w0 B, Seens w0 B (.slice sa nt sc) nt fv ov S ∧ (∀ k, B ≤ k → k < w0.heap.size → w.heap[k]? = w0.heap[k]?) ∧ w0.heap.size ≤ w.heap.size ∧ (∀ b, o = some b → b < B ∨ w0.heap.size ≤ b) ∧ x 0 = .tuple #[.slice sa nt sc, .agg #[.int .i64 0, .int .i64 g]] ∧ (2 ≤ j → x 1 = x 0) ∧ (3 ≤ j → x 2 = .slice sa nt sc) ∧ (4 ≤ j → x 3 = .slice sa nt sc)

set_option maxRecDepth 100000 in
set_option maxHeartbeats 40000000 in
theorem gateHidden_any (hRun : RunOk 8) (a : Option Addr) (n cap : Nat) (V : Nat → LServ) (d : Nat) (type key : ByteArray) (pa : Option Addr) (pcap : Nat) (ps : List (Pick d)) (w : World) (hS : ServsAt w a n V) (hP : PicksAt w d pa ps) (hcap : ps.length ≤ pcap) (hs0 : Small type) (hs1 : Small key) :
    Calls Try.prog 5 #[.slice a n cap, .agg #[.string type, .string key, .slice pa ps.length pcap]] w fun e w' => e = .returned (.bool true) ∧ Below w.heap.size w w' := by
  have HS := Hid.intro hS
  have HP := Hid.intro hP
  generalize hW : w.alloc (Obj.cells #[.string type, .string key, .slice pa ps.length pcap] 25) = W
  have hBW : Below w.heap.size w W := by rw [← hW]; exact below1 _ _
  have a0 : W.cell? ⟨w.heap.size, 0, none⟩ = some (.string type) := by rw [← hW, World.cell?_alloc_at _ _ _ _ rfl]; rfl
  have a1 : W.cell? ⟨w.heap.size, 1, none⟩ = some (.string key) := by rw [← hW, World.cell?_alloc_at _ _ _ _ rfl]; rfl
  have a2 : W.cell? ⟨w.heap.size, 2, none⟩ = some (.slice pa ps.length pcap) := by rw [← hW, World.cell?_alloc_at _ _ _ _ rfl]; rfl
  have hcl := alive7_any hRun W
  have HBW := Hid.intro hBW
  have HRun := Hid.intro hRun
  clear hS hP hBW hRun
  go_enter Try.func5, Try.ntmps5
  go_wp2_with fail
  clear hW
  refine hcl.mono ?_
  clear hcl
  rintro e w1 ⟨rfl, hw1⟩
  have HB1 := Hid.intro (HBW.out.trans (hw1.mono HBW.out.size))
  have a0 := keptCell hw1 a0
  have a1 := keptCell hw1 a1
  have a2 := keptCell hw1 a2
  have hcl := HRun.out a n cap V d type key pa pcap ps w1 (HS.out.kept HB1.out) (HP.out.kept HB1.out) hcap hs0 hs1
  clear hw1 HBW HRun HP
  have HF : Hid (meanE n V d type key ps = 0 → (∀ j, j < n → (seeE (V j)).1 = 0) ∧ ∀ r, r ∈ reqs n V d type key ps → ReqR n V r) := Hid.intro hidden_plain
  generalize meanG n V d type key ps = M at *
  generalize meanE n V d type key ps = x at *
  generalize reqs n V d type key ps = R at *
  go_wp2_with fail
  refine hcl.mono ?_
  clear hcl
  rintro e w2 ⟨⟨va, vc, qa, qc, rfl, -, -, -, hR⟩, hw2⟩
  have HB2 := Hid.intro (HB1.out.trans (hw2.mono HB1.out.size))
  have HR := Hid.intro hR
  have hRl : R.length ≤ 9223372036854775807 := hR.1
  clear hw2 HB1 a0 a1 a2 hR
  by_cases h0 : x = 0
  case neg =>
    have hb : (x != 0) = true := by simpa using h0
    clear HF h0 HR HS
    go_wp2_with fail
    go_ret
    exact ⟨rfl, HB2.out⟩
  have hb : (x != 0) = false := by simpa using h0
  obtain ⟨hsee, hall⟩ := HF.out h0
  have HALL := Hid.intro hall
  have HSEE := Hid.intro hsee
  clear HF h0 hall hsee
  go_wp2_with fail
  clear hb
  go_loopw [32] (fun i wr => ∃ k : Nat, k ≤ R.length ∧ i = .int .i64 k ∧ Below w2.heap.size w2 wr) (fun i _ => R.length - (intOf i).toNat)
  case atStart => exact ⟨0, Nat.zero_le _, rfl, Below.refl _ _⟩
  case round =>
    obtain ⟨k, hk, rfl, hw⟩ := hrel
    by_cases hlt : k < R.length
    · obtain ⟨b, o, A, C, A2, C2, rfl, c0, c1, c2, c3, l1, l2, t1, t2⟩ := (HR.out.kept hw).2 k hlt
      have hRR : ReqR n V (reqN R k) := HALL.out _ (by rw [reqN_get hlt]; exact List.getElem_mem hlt)
      have hlt' : (k : Int) < (R.length : Int) := by omega
      have hk0 : (0 : Int) ≤ (k : Int) := by omega
      obtain ⟨c, t, e1, hc, ht, hf, how, hfl⟩ := hRR.ex
      have hwr : Below w.heap.size w wr := HB2.out.trans (hw.mono HB2.out.size)
      generalize hX : wr.alloc (Obj.cells #[.int .i64 (reqN R k).svc, .string (reqN R k).type, .slice A (reqN R k).keys.length C, .slice A2 (reqN R k).fields.length C2] 34) = X
      have hBX : Below wr.heap.size wr X := by rw [← hX]; exact below1 _ _
      have hbx : X.heap[wr.heap.size]? = some (.cells #[.int .i64 (reqN R k).svc, .string (reqN R k).type, .slice A (reqN R k).keys.length C, .slice A2 (reqN R k).fields.length C2] 34 (0, 0)) := by rw [← hX]; exact heap_alloc_new _ _
      have hSX : ServsAt X a n V := HS.out.kept (hwr.trans (hBX.mono hwr.size))
      obtain ⟨sb, so, rfl, hsv⟩ := hSX.2 c hc
      have s0 := hsv.c0
      have s1 := hsv.c1
      have HCL : Hid (∀ Y : World, Below X.heap.size X Y → Calls Try.prog 11 #[.slice (V c).ta (V c).nt (V c).tcap, .slice (V c).ca (V c).nc (V c).ccap] Y fun e w' => (∃ v, e = .returned (.tuple #[v, faultV (seeF (V c).nt (V c).T (V c).nc (V c).C)]) ∧ ((seeF (V c).nt (V c).T (V c).nc (V c).C).1 ≠ 0 → v = .slice none 0 0) ∧ ((seeF (V c).nt (V c).T (V c).nc (V c).C).1 = 0 → ∃ fv ov, Seens w' Y.heap.size v (V c).nt fv ov (runS (V c).nt (initS (V c).T) (V c).C (V c).nc))) ∧ Below Y.heap.size Y w') := Hid.intro fun Y hY => see_any (V c).ta (V c).ca (V c).nt (V c).tcap (V c).nc (V c).ccap (V c).T (V c).C Y (hsv.ok.types.kept hY) (hsv.ok.changes.kept hY) hsv.ok.tcap
      have hz : (seeF (V c).nt (V c).T (V c).nc (V c).C).1 = 0 := HSEE.out c hc
      obtain ⟨x0, x1, x3⟩ : X.cell? ⟨wr.heap.size, 0, none⟩ = some (.int .i64 (reqN R k).svc) ∧ X.cell? ⟨wr.heap.size, 1, none⟩ = some (.string (reqN R k).type) ∧ X.cell? ⟨wr.heap.size, 3, none⟩ = some (.slice A2 (reqN R k).fields.length C2) := by simp [World.cell?, hbx]
      rw [e1] at x0
      have HWX : Hid (Below w2.heap.size w2 X) := Hid.intro (hw.trans (hBX.mono hw.size))
      have HT2 := Hid.intro (t2.kept hBX)
      have HFL : Hid (∀ f, f ∈ (reqN R k).fields → ∃ q, q < (runS (V c).nt (initS (V c).T) (V c).C (V c).nc t).nf ∧ (runS (V c).nt (initS (V c).T) (V c).C (V c).nc t).O q = f) := Hid.intro fun f hf => (hfl f hf).2
      have HOW : Hid ((runS (V c).nt (initS (V c).T) (V c).C (V c).nc t).own = (reqN R k).type) := Hid.intro how
      have hnt : (V c).nt ≤ 9223372036854775807 := hsv.ok.types.1
      have hfn : (reqN R k).fields.length ≤ 9223372036854775807 := t2.1
      clear hRR t1 t2 l1 l2 hwr hBX hSX hw hbx hfl how hsv hf
      generalize reqN R k = r at *
      generalize runS (V c).nt (initS (V c).T) (V c).C (V c).nc = S at *
      generalize seeF (V c).nt (V c).T (V c).nc (V c).C = sf at *
      generalize (V c).nt = nt at *
      have hc0 : (0 : Int) ≤ (c : Int) := by omega
      have hc1 : (c : Int) < (n : Int) := by omega
      have hc2 : ((c : Int)).toNat = c := by omega
      rw [e1] at hX c0
      obtain ⟨sf1, sf2⟩ := sf
      have hz' : sf1 = 0 := hz
      subst hz'
      clear hz
      have HX := Hid.intro hX
      clear hX
      go_upto_region 9 with fail
      rw [HX.out]
      clear HX c0 c1 c2 c3
      generalize wr.heap.size = bx at *
      refine hidSee (HidP X nt S sf2) (sb := sb) (so := so) (n := n) (cap := cap) (bx := bx) (c := c) (tn := nt) (tc := (V c).tcap) (cn := (V c).nc) (cc := (V c).ccap) (ta := (V c).ta) (ca := (V c).ca) (g := sf2) (by kernel_rfl) rfl rfl hc0 hc1 ?_ ?_ ?_ ?_ ?_ ?_ ?_ ?_ ?_ ?_
      · rintro j x9 o9 w9 hj ⟨-, -, -, h3⟩
        obtain ⟨sa, sc, fv, ov, w0, B, -, -, -, -, e0, e1, -⟩ := h3 (by omega)
        exact ⟨_, (e1 hj).trans e0⟩
      · intro x9
        exact ⟨(Below.refl _ _).drew, fun b h => (by cases h), fun h => absurd h (by omega), fun h => absurd h (by omega)⟩
      · rintro j x9 o9 w9 - ⟨h1, -, -, -⟩
        exact ⟨keptCell h1 x0, keptCell h1 s0, keptCell h1 s1⟩
      · rintro x9 o9 w9 ⟨h1, h2, -, -⟩
        refine (HCL.out w9 h1).mono ?_
        rintro e w8 ⟨⟨v, rfl, -, hyes⟩, hw8⟩
        obtain ⟨fv, ov, hSe⟩ := hyes rfl
        obtain ⟨sa, sc, rfl, -⟩ := hSe.slice
        refine ⟨_, rfl, fun x' e1 e2 => ⟨h1.trans (hw8.mono h1.size), fun b hb => ⟨(h2 b hb).1, (hw8.block b (lt_of_block (h2 b hb).2)).trans (h2 b hb).2⟩, fun h => absurd h (by omega), fun _ => ⟨sa, sc, fv, ov, w8, w9.heap.size, hSe, fun _ _ _ => rfl, Nat.le_refl _, fun b hb => .inl (lt_of_block (h2 b hb).2), e1, fun h => absurd h (by omega), fun h => absurd h (by omega), fun h => absurd h (by omega)⟩⟩⟩
      · rintro x9 o9 w9 ⟨h1, h2, -, h3⟩ x' e1 e2
        obtain ⟨sa, sc, fv, ov, w0, B, q1, q2, q3, q4, q5, -⟩ := h3 (by omega)
        have e0 : x' 0 = x9 0 := e2 0 (by decide)
        exact ⟨h1, h2, fun h => absurd h (by omega), fun _ => ⟨sa, sc, fv, ov, w0, B, q1, q2, q3, q4, e0.trans q5, fun _ => e1.trans e0.symm, fun h => absurd h (by omega), fun h => absurd h (by omega)⟩⟩
      · rintro x9 o9 w9 ⟨h1, h2, -, h3⟩
        obtain ⟨sa, sc, fv, ov, w0, B, q1, q2, q3, q4, q5, q6, -⟩ := h3 (by omega)
        refine ⟨sa, nt, sc, (q6 (by omega)).trans q5, fun x' e1 e2 => ?_⟩
        have e0 : x' 0 = x9 0 := e2 0 (by decide)
        have e9 : x' 1 = x9 1 := e2 1 (by decide)
        exact ⟨h1, h2, fun h => absurd h (by omega), fun _ => ⟨sa, sc, fv, ov, w0, B, q1, q2, q3, q4, e0.trans q5, fun _ => by rw [e9, e0]; exact q6 (by omega), fun _ => e1, fun h => absurd h (by omega)⟩⟩
      · rintro x9 o9 w9 ⟨h1, h2, -, h3⟩ x' e1 e2
        obtain ⟨sa, sc, fv, ov, w0, B, q1, q2, q3, q4, q5, q6, q7, -⟩ := h3 (by omega)
        have e0 : x' 0 = x9 0 := e2 0 (by decide)
        have e9 : x' 1 = x9 1 := e2 1 (by decide)
        have e8 : x' 2 = x9 2 := e2 2 (by decide)
        exact ⟨h1, h2, fun h => absurd h (by omega), fun _ => ⟨sa, sc, fv, ov, w0, B, q1, q2, q3, q4, e0.trans q5, fun _ => by rw [e9, e0]; exact q6 (by omega), fun _ => e8.trans (q7 (by omega)), fun _ => e1.trans (q7 (by omega))⟩⟩
      · rintro x9 b w9 ⟨h1, h2, -, h3⟩
        obtain ⟨sa, sc, fv, ov, w0, B, q1, q2, q3, q4, q5, q6, q7, q8⟩ := h3 (by omega)
        obtain ⟨hb1, hb2⟩ := h2 b rfl
        have hb3 : w9.heap[b]? = some (.cells #[.int .i64 0, .int .i64 0] 40 (0, 0)) := hb2
        refine ⟨hb3, (h1.setCell hb1 _).setCell hb1 _, fun b' e => ?_, fun _ h => (by cases h), fun _ => ⟨sa, sc, fv, ov, w0, B, q1, fun k hk1 hk2 => ?_, ?_, q4, q5, fun _ => q6 (by omega), fun _ => q7 (by omega), fun _ => q8 (by omega)⟩⟩
        · cases e
          refine ⟨hb1, ?_⟩
          rw [if_pos rfl]
          exact heap_setCell_same _ b 1 _ 40 (.int .i64 sf2) (heap_setCell_same _ b 0 _ 40 (.int .i64 0) hb3)
        · have hne : k ≠ b := fun e => by rcases q4 b rfl with h | h <;> omega
          rw [Below.heap_setCell _ _ _ _ (by show k ≠ b; exact hne), Below.heap_setCell _ _ _ _ (by show k ≠ b; exact hne)]
          exact q2 k hk1 hk2
        · simpa using q3
      · rintro j x9 w9 ⟨h1, -, h5, h3⟩
        have hB9 := below1 w9 (Obj.cells #[.int .i64 0, .int .i64 0] 40)
        have hj5 : j ≠ 5 := fun h => h5 h rfl
        refine ⟨h1.trans (hB9.mono h1.size), fun b e => ?_, fun h => absurd h hj5, fun hj => ?_⟩
        · cases e
          exact ⟨h1.size, by rw [if_neg hj5]; exact heap_alloc_new _ _⟩
        · obtain ⟨sa, sc, fv, ov, w0, B, q1, q2, q3, q4, q5⟩ := h3 hj
          exact ⟨sa, sc, fv, ov, w0, B, q1, fun k hk1 hk2 => (hB9.block k (by omega)).trans (q2 k hk1 hk2), Nat.le_trans q3 hB9.size, fun b e => by cases e; exact .inr q3, q5⟩
      intro s b w3 hsb hp
      obtain ⟨hw3, hbx3, -, hse3⟩ := hp
      obtain ⟨sa, sc, fv, ov, w0, B, q1, q2, -, -, -, -, -, q8⟩ := hse3 (by omega)
      have hs10 : s 10 = .slice sa nt sc := q8 (by omega)
      have hs11 : s 11 = .pointer (some ⟨b, 0, none⟩) := hsb
      have hb9 := (hbx3 b rfl).2
      have y0 : w3.cell? ⟨b, 0, none⟩ = some (.int .i64 0) := by simp [World.cell?, hb9]
      have hSe : Seens w3 B (.slice sa nt sc) nt fv ov S := q1.keep q2
      have x1 := keptCell hw3 x1
      have x3 := keptCell hw3 x3
      have HT2 := Hid.intro (HT2.out.kept hw3)
      have HSe := Hid.intro hSe
      have HY : Hid (Below w2.heap.size w2 w3) := Hid.intro (HWX.out.trans (hw3.mono HWX.out.size))
      obtain ⟨Y, hren⟩ : ∃ Y, Y = w3 := ⟨_, rfl⟩
      subst hren
      clear hw3 hbx3 hse3 q1 q2 q8 hsb hb9 hSe HWX HCL x0 s0 s1
      simp only [putAll, Act.put, List.setIfInBounds_toArray, List.set_cons_succ, List.set_cons_zero, hs10, hs11]
      generalize s 37 = t37
      generalize s 38 = t38
      generalize s 39 = t39
      generalize s 40 = t40
      generalize s 41 = t41
      generalize s 42 = t42
      generalize s 43 = t43
      generalize s 44 = t44
      generalize s 45 = t45
      generalize s 46 = t46
      generalize s 47 = t47
      generalize s 48 = t48
      generalize s 49 = t49
      generalize s 36 = t36
      generalize s 50 = t50
      generalize s 51 = t51
      clear hs10 hs11
      go_wp2_with fail
      clear y0
      generalize X.heap.size = sz at *
      go_loopw [58] (fun i wr => ∃ k2 : Nat, k2 ≤ r.fields.length ∧ i = .int .i64 k2 ∧ Below Y.heap.size Y wr) (fun i _ => r.fields.length - (intOf i).toNat)
      case atStart => exact ⟨0, Nat.zero_le _, rfl, Below.refl _ _⟩
      case round =>
        obtain ⟨k2, hk2, rfl, hwa⟩ := hrel
        obtain ⟨wa, hren⟩ : ∃ wa, wa = wr := ⟨_, rfl⟩
        subst hren
        by_cases hl2 : k2 < r.fields.length
        · obtain ⟨fb, fo, rfl, fc, -⟩ := (HT2.out.kept hwa).2 k2 hl2
          have hl2' : (k2 : Int) < (r.fields.length : Int) := by omega
          have hk20 : (0 : Int) ≤ (k2 : Int) := by omega
          have x1a := keptCell hwa x1
          obtain ⟨q, hq, hqo⟩ := HFL.out (txtN r.fields k2) (by
            have : txtN r.fields k2 = r.fields[k2] := by simp [txtN, List.getD, hl2]
            rw [this]; exact List.getElem_mem hl2)
          have HQ : Hid ((S t).O q = txtN r.fields k2) := Hid.intro hqo
          have HSa := Hid.intro (HSe.out.kept hwa)
          have HYa := Hid.intro hwa
          clear hwa hqo
          generalize txtN r.fields k2 = fld at *
          go_wp2_with fail
          clear fc
          go_loopw [14, 64] (fun bv i wr => ∃ (bb : Bool) (k3 : Nat), k3 ≤ nt ∧ bv = .bool bb ∧ i = .int .i64 k3 ∧ Hid (t < k3 → bb = true) ∧ Below wa.heap.size wa wr) (fun _ i _ => nt - (intOf i).toNat)
          case atStart => exact ⟨false, 0, Nat.zero_le _, rfl, rfl, Hid.intro (fun h => absurd h (Nat.not_lt_zero _)), Below.refl _ _⟩
          case round =>
            obtain ⟨bb, k3, hk3, rfl, rfl, HB, hwb⟩ := hrel
            obtain ⟨wb, hren⟩ : ∃ wb, wb = wr := ⟨_, rfl⟩
            subst hren
            by_cases hl3 : k3 < nt
            · have hSb := HSa.out.kept hwb
              obtain ⟨g, cap', hv, -, -⟩ := hSb.ptr hl3
              cases hv
              obtain ⟨m0, m1, m2, m3⟩ := hSb.cells hl3
              obtain ⟨u1, v1, g1, -⟩ := (hSb.fields k3 hl3).slice
              have hro := hSb.owns k3 hl3
              obtain ⟨u2, v2, g2, -⟩ := hro.slice
              rw [g1] at m1
              rw [g2] at m3 hro
              have hgd := (hSb.good k3 hl3)
              have hl3' : (k3 : Int) < (nt : Int) := by omega
              have hk30 : (0 : Int) ≤ (k3 : Int) := by omega
              have hnf : (S k3).nf ≤ 9223372036854775807 := hgd.2.2.1
              generalize hZ : wb.alloc (Obj.cells #[.string (S k3).name, .slice u1 (S k3).nf v1, .string (S k3).own, .slice u2 (S k3).nf v2] 52) = Z
              have hBZ : Below wb.heap.size wb Z := by rw [← hZ]; exact below1 _ _
              have hbz : Z.heap[wb.heap.size]? = some (.cells #[.string (S k3).name, .slice u1 (S k3).nf v1, .string (S k3).own, .slice u2 (S k3).nf v2] 52 (0, 0)) := by rw [← hZ]; exact heap_alloc_new _ _
              obtain ⟨z2, z3⟩ : Z.cell? ⟨wb.heap.size, 2, none⟩ = some (.string (S k3).own) ∧ Z.cell? ⟨wb.heap.size, 3, none⟩ = some (.slice u2 (S k3).nf v2) := by simp [World.cell?, hbz]
              have hbZ : Below wa.heap.size wa Z := hwb.trans (hBZ.mono hwb.size)
              have x1z := keptCell hbZ x1a
              have HRo := Hid.intro (hro.kept hBZ)
              have HZ := Hid.intro hbZ
              have HQ3 : Hid (k3 = t → ((S k3).own.toList == r.type.toList) = true ∧ q < (S k3).nf ∧ ((S k3).O q).toList == fld.toList) := Hid.intro fun e => by
                subst e
                rw [HOW.out, HQ.out]
                exact ⟨toList_self _, hq, toList_self _⟩
              clear hSb hgd hwb hBZ hbz hbZ hro g1 g2
              generalize S k3 = s3 at *
              go_upto_region 20 with fail
              clear hZ m0 m1 m2 m3
              generalize wb.heap.size = bz at *
              go_loopw [14, 71] (fun bv i wr => ∃ (b4 : Bool) (k4 : Nat), k4 ≤ s3.nf ∧ bv = .bool b4 ∧ i = .int .i64 k4 ∧ Hid ((bb = true → b4 = true) ∧ (k3 = t → q < k4 → b4 = true)) ∧ wr = Z) (fun _ i _ => s3.nf - (intOf i).toNat)
              case atStart => exact ⟨bb, 0, Nat.zero_le _, rfl, rfl, Hid.intro ⟨fun h => h, fun _ h => absurd h (Nat.not_lt_zero _)⟩, rfl⟩
              case round =>
                obtain ⟨b4, k4, hk4, rfl, rfl, H4, hren⟩ := hrel
                subst hren
                by_cases hl4 : k4 < s3.nf
                · have hl4' : (k4 : Int) < (s3.nf : Int) := by omega
                  have hk40 : (0 : Int) ≤ (k4 : Int) := by omega
                  rcases HRo.out.shape with ⟨-, h9⟩ | ⟨gb, gc, hgv, -, -, -⟩
                  · omega
                  cases hgv
                  have oc := HRo.out.cell (j := k4) (by omega)
                  unfold textCell at oc
                  cases b4 with
                  | true =>
                    go_wp2_with fail
                    go_roundw
                    case rel => exact ⟨true, k4 + 1, by omega, rfl, by go_num, Hid.intro ⟨fun _ => rfl, fun _ _ => rfl⟩, trivial⟩
                    case measure => simp [intOf]; omega
                  | false =>
                    have HbF : Hid (bb = true → False) := Hid.intro fun h => by have := H4.out.1 h; simp at this
                    cases hE : (s3.own.toList == r.type.toList) with
                    | true =>
                      have HN : Hid (k3 = t → q < k4 + 1 → ((s3.O k4).toList == fld.toList) = true) := Hid.intro fun e hq4 => by
                        by_cases hq5 : q < k4
                        · have := H4.out.2 e hq5; simp at this
                        · have : q = k4 := by omega
                          subst this
                          exact (HQ3.out e).2.2
                      go_wp2_with fail
                      go_roundw
                      case rel => exact ⟨_, k4 + 1, by omega, rfl, by go_num, Hid.intro ⟨fun h => (HbF.out h).elim, HN.out⟩, trivial⟩
                      case measure => simp [intOf]; omega
                    | false =>
                      have HN : Hid (k3 = t → False) := Hid.intro fun e => by have := (HQ3.out e).1; rw [hE] at this; simp at this
                      go_wp2_with fail
                      go_roundw
                      case rel => exact ⟨false, k4 + 1, by omega, rfl, by go_num, Hid.intro ⟨fun h => (HbF.out h).elim, fun e => (HN.out e).elim⟩, trivial⟩
                      case measure => simp [intOf]; omega
                · have HB3 : Hid (t < k3 + 1 → b4 = true) := Hid.intro fun h => by
                    by_cases h' : t < k3
                    · exact H4.out.1 (HB.out h')
                    · have e : k3 = t := by omega
                      exact H4.out.2 e (by have := (HQ3.out e).2.1; omega)
                  go_wp2_with fail
                  go_roundw
                  case rel => exact ⟨b4, k3 + 1, by omega, rfl, by go_num, HB3, HZ.out⟩
                  case measure => simp [intOf]; omega
            · have hbt : bb = true := HB.out (by omega)
              subst hbt
              have HYb := Hid.intro (HYa.out.trans (hwb.mono HYa.out.size))
              clear hwb
              go_wp2_with fail
              go_roundw
              case rel => exact ⟨k2 + 1, by omega, by go_num, HYb.out⟩
              case measure => simp [intOf]; omega
        · have HYb := Hid.intro (HY.out.trans (hwa.mono HY.out.size))
          clear hwa
          go_wp2_with fail
          go_roundw
          case rel => exact ⟨k + 1, by omega, by go_num, HYb.out⟩
          case measure => simp [intOf]; omega
    · go_wp2_with fail
      go_ret
      exact ⟨rfl, HB2.out.trans (hw.mono HB2.out.size)⟩
end Go.Proofs.Ytjjggefmmeminac
