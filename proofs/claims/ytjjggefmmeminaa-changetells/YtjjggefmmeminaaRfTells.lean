/-
  The walk of stitchlaw2.ChangeTells: it answers true, and keeps what is there.
-/
import Derived.Test.YtjjggefmmeminaaRfTypes
import Derived.Test.YtjjggefmmeminaaChSame
namespace Go.Proofs.Ytjjggefmmeminaa
open Go.RowKit Go.Sort Go.PlainAid

theorem RS.rebox {w w' : World} {base bs bs' n : Nat} {fv : Value} {rows : Nat → Value} {len : Nat → Nat} {txt : Nat → Nat → ByteArray} (h : RS w base bs n fv rows len txt) (hb : Below w.heap.size w w') (hbs : base ≤ bs') (hbox : w'.heap[bs']? = some (.cells #[rows 0, rows 1, fv] 47 (0, 0))) : RS w' base bs' n fv rows len txt :=
  ⟨hbs, hbox, h.frow.kept hb, fun k hk => (h.texts k hk).kept hb, h.apart, h.lens, h.good, h.nmax⟩
theorem types_kind {w : World} {a : Option Addr} {n : Nat} {T : Nat → LType} (h : TypesAt w a n T) : ∀ i, i < n → ∀ j, j < (T i).nf → (Lit.int .i64 ((T i).F j).kind).wf = true := fun i hi j hj => by
  obtain ⟨-, -, -, -, -, -, -, hF⟩ := h.2 i hi
  obtain ⟨-, -, -, -, -, -, -, -, hk⟩ := hF.2 j hj
  exact hk

set_option maxRecDepth 100000 in
set_option maxHeartbeats 2000000 in
theorem changeTells_any (a ca : Option Addr) (n cap m ccap : Nat) (T : Nat → LType) (C : Nat → PChange) (w : World) (hT : TypesAt w a n T) (hC : ChangesAt w ca m C) (hcap : n ≤ cap) :
    Calls Try.prog 6 #[.slice a n cap, .slice ca m ccap] w fun e w' => e = .returned (.bool true) ∧ Below w.heap.size w w' := by
  have HKW := Hid.intro (types_kind hT)
  have HT : Hid (TypesAt w a n T) := hT
  have HC : Hid (ChangesAt w ca m C) := hC
  clear hT hC
  go_enter Try.func6, Try.ntmps6
  go_wp2_with fail
  refine (see_any a ca n cap m ccap T C w HT.out HC.out hcap).mono ?_
  rintro e w1 ⟨⟨v, rfl, hno, hyes⟩, hw1⟩
  generalize hW : w1.alloc (Obj.cells #[.int .i64 (seeF n T m C).1, .int .i64 (seeF n T m C).2] 30) = W
  have hBW : Below w1.heap.size w1 W := by rw [← hW]; exact below1 _ _
  have HB : Hid (Below w.heap.size w W) := hw1.trans (hBW.mono hw1.size)
  have b0 : W.cell? ⟨w1.heap.size, 0, none⟩ = some (.int .i64 (seeF n T m C).1) := by rw [← hW, World.cell?_alloc_at _ _ _ _ rfl]; rfl
  have b1 : W.cell? ⟨w1.heap.size, 1, none⟩ = some (.int .i64 (seeF n T m C).2) := by rw [← hW, World.cell?_alloc_at _ _ _ _ rfl]; rfl
  have hyes' : (seeF n T m C).1 = 0 → ∃ fv ov, Seens W w.heap.size v n fv ov (runS n (initS T) C m) := fun h => let ⟨fv, ov, hS⟩ := hyes h; ⟨fv, ov, hS.kept hBW⟩
  have HYES := Hid.intro hyes'
  have hvs : ∃ va vn vc, v = .slice va vn vc ∧ ((seeF n T m C).1 ≠ 0 → vn = 0) := by
    by_cases h : (seeF n T m C).1 = 0
    · obtain ⟨fv, ov, hS⟩ := hyes h
      obtain ⟨va, vc, e, -⟩ := hS.slice
      exact ⟨va, n, vc, e, fun h' => absurd h h'⟩
    · exact ⟨none, 0, 0, hno h, fun _ => rfl⟩
  obtain ⟨va, vn, vc, rfl, hvn⟩ := hvs
  have hcl := refSee_any a ca n cap m ccap T C W (HT.out.kept HB.out) (HC.out.kept HB.out) hcap
  rw [see_same] at hcl
  clear hno hyes hyes' hw1 hBW
  unfold faultV
  go_wp2_with fail
  clear hW
  refine hcl.mono ?_
  clear hcl
  rintro e w2 ⟨⟨x0, x1, fv, rfl, hrs, ⟨y0, l0, c0, rfl⟩, ⟨y1, l1, c1, rfl⟩, ⟨y2, l2, c2, rfl⟩⟩, hw2⟩
  have HB2 : Hid (Below w.heap.size w w2) := HB.out.trans (hw2.mono HB.out.size)
  have HBW := Hid.intro hw2
  have b0 := keptCell hw2 b0
  have b1 := keptCell hw2 b1
  clear hw2
  have HRS := Hid.intro hrs
  clear hrs
  unfold seeAgg
  generalize hY : (w2.alloc (Obj.cells #[.slice y0 l0 c0, .slice y1 l1 c1, .slice y2 l2 c2] 47)).alloc (Obj.cells #[.int .i64 (seeF n T m C).1, .int .i64 (seeF n T m C).2] 30) = Y
  have hBY : Below w2.heap.size w2 Y := by rw [← hY]; exact below2 _ _ _
  have hbx : Y.heap[w2.heap.size]? = some (.cells #[.slice y0 l0 c0, .slice y1 l1 c1, .slice y2 l2 c2] 47 (0, 0)) := by rw [← hY]; exact (Below.heap_alloc _ _ _ (by simp)).trans (heap_alloc_new _ _)
  have hbf : Y.heap[w2.heap.size + 1]? = some (.cells #[.int .i64 (seeF n T m C).1, .int .i64 (seeF n T m C).2] 30 (0, 0)) := by
    rw [← hY, show w2.heap.size + 1 = (w2.alloc (Obj.cells #[.slice y0 l0 c0, .slice y1 l1 c1, .slice y2 l2 c2] 47)).heap.size by simp]; exact heap_alloc_new _ _
  have d0 := keptCell hBY b0
  have d1 := keptCell hBY b1
  have d2 : Y.cell? ⟨w2.heap.size + 1, 0, none⟩ = some (.int .i64 (seeF n T m C).1) := by simp [World.cell?, hbf]
  have d3 : Y.cell? ⟨w2.heap.size + 1, 1, none⟩ = some (.int .i64 (seeF n T m C).2) := by simp [World.cell?, hbf]
  have HBY : Hid (Below w.heap.size w Y) := HB2.out.trans (hBY.mono HB2.out.size)
  have HBW2 : Hid (Below W.heap.size W Y) := HBW.out.trans (hBY.mono HBW.out.size)
  have HB2Y := Hid.intro hBY
  clear hBY hbf b0 b1 HBW
  by_cases h1 : (seeF n T m C).1 = 0
  case neg =>
    have h1b : ((seeF n T m C).1 != 0) = true := by simpa using h1
    obtain rfl := hvn h1
    clear h1 hbx HRS HYES hvn
    generalize seeF n T m C = r at *
    go_wp2_with fail
    go_ret
    exact ⟨rfl, HBY.out⟩
  have h1b : ((seeF n T m C).1 != 0) = false := by simpa using h1
  obtain ⟨fv, ov, hS⟩ := HYES.out h1
  have hvn' : n = vn := by
    obtain ⟨_, _, e, -⟩ := hS.slice
    cases e; rfl
  subst hvn'
  clear hvn
  have hR0 := seeF_right h1
  have hRel := rel_run (C := C) hR0 m
  have hRS := right_run (C := C) hR0 m
  obtain ⟨base, bs, rows, e0, e1, hrs⟩ := HRS.out h1
  rw [← e0, ← e1] at hbx
  have hrY : RS Y base w2.heap.size n (.slice y2 l2 c2) rows (initLen n T) (runR n (initLen n T) (initTxt T) C m) := hrs.rebox HB2Y.out (by have := hrs.hbs; have := lt_of_block hrs.box; omega) hbx
  have hcl := refTypes_any a n cap base w2.heap.size _ rows T _ Y (HT.out.kept HBY.out) hrY hR0 hRel.own0 HKW.out
  have HSY : Hid (Seens Y w.heap.size (.slice va n vc) n fv ov (runS n (initS T) C m)) := hS.kept HBW2.out
  have hnf : ∀ i, i < n → (runS n (initS T) C m i).nf ≤ 1000 := fun i hi => by have := (hRS.fld i hi).few; omega
  have hn8 : n ≤ 8 := hRS.few
  have HNF := Hid.intro hnf
  have HREL := Hid.intro hRel
  clear h1 hbx HRS HYES hS hR0 hRS hrs hrY hRel hnf e0 e1
  generalize runS n (initS T) C m = S at *
  generalize runR n (initLen n T) (initTxt T) C m = txt at *
  generalize seeF n T m C = r at *
  go_wp2_with fail
  refine hcl.mono ?_
  clear hcl hY
  rintro e w3 ⟨⟨a2, k2, a3, k3, A, Cp, NV, rfl, hc2, hT2, hN2, hNV, -⟩, hw3⟩
  have HB3 : Hid (Below w.heap.size w w3) := HBY.out.trans (hw3.mono HBY.out.size)
  have HS3 : Hid (Seens w3 w.heap.size (.slice va n vc) n fv ov S) := HSY.out.kept hw3
  have hcl := types_any _ n _ fv ov S w3 HS3.out (by omega) HNF.out
  have HT2 := Hid.intro hT2
  have HN2 := Hid.intro hN2
  have HNV := Hid.intro hNV
  have hzb : w.heap.size ≤ Y.heap.size := HBY.out.size
  clear hT2 hN2 hNV hw3 d0 d1 d2 d3
  generalize Y.heap.size = By at *
  go_wp2_with fail
  refine hcl.mono ?_
  clear hcl
  rintro e w4 ⟨⟨ta, tc, T3, rfl, htc, hT3, hTA⟩, hw4⟩
  have HB4 : Hid (Below w.heap.size w w4) := HB3.out.trans (hw4.mono HB3.out.size)
  have HB34 := Hid.intro hw4
  have hcl := sameTypes_any ta a2 n tc k2 T3 (typR n T txt A Cp) w4 hT3 (HT2.out.kept hw4) (fun i hi => by
    obtain ⟨q1, q2, q3⟩ := hTA i hi
    have r1 := HREL.out.nf i hi
    refine ⟨by rw [q1, HREL.out.name i hi]; rfl, by rw [q2, r1]; rfl, fun j hj => ?_⟩
    rw [q2] at hj
    rw [q3, HREL.out.F i hi j hj]; rfl)
  clear hT3 hTA hw4
  go_wp2_with fail
  refine hcl.mono ?_
  clear hcl
  rintro e w5 ⟨rfl, hw5⟩
  have HB5 : Hid (Below w.heap.size w w5) := HB4.out.trans (hw5.mono HB4.out.size)
  have hw35 := HB34.out.trans (hw5.mono HB34.out.size)
  have HS5 : Hid (Seens w5 w.heap.size (.slice va n vc) n fv ov S) := HS3.out.kept hw35
  have HT5 := Hid.intro (HT2.out.kept hw35)
  have HN5 := Hid.intro (HN2.out.kept hw35)
  have HNV5 : Hid (∀ i, i < n → Row w5 By 9 1 (NV i) (visL T txt i).length (textCell (fun q => ((T i).F ((visL T txt i).getD q 0)).name))) := fun i hi => (HNV.out i hi).kept hw35
  clear hw5 hw35 HS3 HT2 HN2 HNV HB34
  go_wp2_with fail
  go_loopw [59] (fun i wr => ∃ k : Nat, k ≤ n ∧ i = .int .i64 k ∧ Below w5.heap.size w5 wr) (fun i _ => n - (intOf i).toNat)
  case atStart => exact ⟨0, Nat.zero_le _, rfl, Below.refl _ _⟩
  case round =>
    obtain ⟨k, hk, rfl, hw⟩ := hrel
    by_cases hlt : k < n
    · have hSr := HS5.out.kept hw
      obtain ⟨g, cap', hv, -, -⟩ := hSr.ptr hlt
      cases hv
      obtain ⟨q0, q1, q2, q3⟩ := hSr.cells hlt
      have hgd := hSr.good k hlt
      obtain ⟨a1, c1', e1, -, hFA⟩ := (hSr.fields k hlt).fieldsAt hgd.2.2.1 hgd.2.2.2.1
      obtain ⟨a4, c4, e2, -, hKA⟩ := (hSr.owns k hlt).keysAt hgd.2.2.1 hgd.2.2.2.2
      rw [e1] at q1
      rw [e2] at q3
      rw [HREL.out.own k hlt] at q2
      have r1 := HREL.out.nf k hlt
      obtain ⟨b, o, rfl, t0, t1, -⟩ := ((HT.out.kept HB5.out).kept hw).2 k hlt
      obtain ⟨bb, oo, rfl, u0, u1, -, -, hF2⟩ := (HT5.out.kept hw).2 k hlt
      have hF2' : FieldsAt wr (A k) (S k).nf (S k).F := by
        have h2 : FieldsAt wr (A k) (visL T txt k).length (fun q => mkF n T txt k ((visL T txt k).getD q 0)) := hF2
        rw [← r1] at h2
        refine ⟨h2.1, fun j hj => ?_⟩
        rw [HREL.out.F k hlt j hj]; exact h2.2 j hj
      have u0' : wr.cell? ⟨bb, oo + k * 2, none⟩ = some (.string (S k).name) := by rw [HREL.out.name k hlt]; exact u0
      have u1' : wr.cell? ⟨bb, oo + k * 2 + 1, none⟩ = some (.slice (A k) (S k).nf (Cp k)) := by rw [r1]; exact u1
      have hN := HN5.out.kept hw
      rcases hN.shape with ⟨-, h0⟩ | ⟨gn, cn, hvn, -, -, -⟩
      · omega
      have hnv := hvn
      cases hnv
      have hc := hN.cell (j := k) (by omega)
      obtain ⟨a5, c5, e5, -, hKN⟩ := ((HNV5.out k hlt).kept hw).keysAt (by rw [← r1]; exact hgd.2.2.1) (fun q hq => by
        have := hgd.2.2.2.2 q (by rw [r1]; exact hq)
        rw [HREL.out.O k hlt q (by rw [r1]; exact hq)] at this; exact this)
      rw [e5] at hc
      have hKN' : KeysAt wr a5 (S k).nf (S k).O := by
        rw [← r1] at hKN
        refine ⟨hKN.1, fun j hj => ?_⟩
        rw [HREL.out.O k hlt j hj]; exact hKN.2 j hj
      rw [← r1] at hc
      have hlt' : (k : Int) < (n : Int) := by omega
      have hk0 : (0 : Int) ≤ (k : Int) := by omega
      have cA : ∀ d os, Calls Try.prog 31 #[.slice a4 (S k).nf c4, .slice a5 (S k).nf c5] (grow (redrawn wr d) os) fun e w'' => e = .returned (.bool true) ∧ ∃ p : Regrown, w'' = grow (redrawn wr p.d) p.os := fun d os => Calls.regrown_of (sameTexts_any _ _ _ _ _ (S k).O _ (hKA.kept (below_regrown wr d os)) (hKN'.kept (below_regrown wr d os)))
      have cB : ∀ d os, Calls Try.prog 32 #[.agg #[.string (S k).name, .slice a1 (S k).nf c1'], .agg #[.string (S k).name, .slice (A k) (S k).nf (Cp k)]] (grow (redrawn wr d) os) fun e w'' => e = .returned (.bool true) ∧ ∃ p : Regrown, w'' = grow (redrawn wr p.d) p.os := fun d os => Calls.regrown_of (sameType_any _ _ _ _ _ _ (S k).F _ (hFA.kept (below_regrown wr d os)) (hF2'.kept (below_regrown wr d os)))
      have p0 := cell_regrown q0
      have p1 := cell_regrown q1
      have p2 := cell_regrown q2
      have p3 := cell_regrown q3
      have p4 := cell_regrown t0
      have p5 := cell_regrown u0'
      have p6 := cell_regrown u1'
      have p7 := cell_regrown hc
      have HW : Hid (Below w5.heap.size w5 wr) := hw
      clear hSr e1 e2 e5 hw q0 q1 q2 q3 t0 t1 u0 u1 u0' u1' hc hF2 hF2' hKA hKN hKN' hFA hN hgd r1 hvn
      go_wp2_with fail
      refine wp_region_quiet_below (by kernel_rfl) (by kernel_rfl) ?_
      repeat (go_big_quiet_step (first | exact cA _ _ | exact cB _ _))
      refine wpQuiet_nil ?_
      intro _ hw'
      obtain ⟨⟨dq, osq⟩, hw''⟩ := hw'
      subst hw''
      have hb2 := below_regrown wr dq osq
      have HB2 : Hid (Below w5.heap.size w5 (grow (redrawn wr dq) osq)) := HW.out.trans (hb2.mono HW.out.size)
      clear hb2 cA cB p0 p1 p2 p3 p4 p5 p6 p7
      go_wp2_with fail
      go_roundw
      case rel => exact ⟨k + 1, by omega, by go_num, HB2.out⟩
      case measure => simp [intOf]; omega
    · have HW : Hid (Below w5.heap.size w5 wr) := hw
      clear hw
      go_wp2_with fail
      go_ret
      exact ⟨rfl, HB5.out.trans (HW.out.mono HB5.out.size)⟩
end Go.Proofs.Ytjjggefmmeminaa
