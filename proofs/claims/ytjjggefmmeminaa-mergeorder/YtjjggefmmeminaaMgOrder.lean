/-
  The walk of stitchlaw3.MergeOrder: it answers true, and keeps what is there.
-/
import Derived.Test.YtjjggefmmeminaaMgOrderP
import Derived.Test.YtjjggefmmeminaaMgAlive
import Derived.Test.YtjjggefmmeminaaMgServRow
namespace Go.Proofs.Ytjjggefmmeminaa
open Go.RowKit Go.Sort Go.PlainAid

set_option maxRecDepth 100000 in
set_option maxHeartbeats 4000000 in
theorem mergeOrder_any (a : Option Addr) (n cap : Nat) (V : Nat → LServ) (w : World) (hS : ServsAt w a n V) (hby : n * 72 ≤ 140737488355328) :
    Calls Try.prog 12 #[.slice a n cap] w fun e w' => e = .returned (.bool true) ∧ Below w.heap.size w w' := by
  obtain ⟨i0, hi0, hz0, hz1, hz2⟩ := info_parts' Try.info83
  have hn : n ≤ 9223372036854775807 := hS.1
  have HS := Hid.intro hS
  clear hS
  go_enter Try.func12, Try.ntmps12
  go_wp2_with fail
  refine (alive3_any w).mono ?_
  rintro e w1 ⟨rfl, hB1⟩
  have HB1 := Hid.intro hB1
  have HS1 := Hid.intro (HS.out.kept hB1)
  clear hB1
  go_wp2_with fail
  go_loopw [3, 4] (fun v i wr => ∃ m : Nat, m ≤ n ∧ i = .int .i64 ((n : Int) - 1 - (m : Int)) ∧ Row wr w1.heap.size 83 3 v m (servCell (revV n V)) ∧ Below w1.heap.size w1 wr) (fun _ i _ => (intOf i + 1).toNat)
  case atStart => exact ⟨0, Nat.zero_le _, by go_num, World.ownsRow_nil _ _ _ _, Below.refl _ _⟩
  case round =>
    obtain ⟨m, hm, rfl, hR, hw⟩ := hrel
    by_cases hlt : m < n
    · obtain ⟨b, o, rfl, hs⟩ := (HS1.out.kept hw).2 (n - 1 - m) (by omega)
      have c0 := hs.c0
      have c1 := hs.c1
      have c2 := hs.c2
      have hei : (n : Int) - 1 - (m : Int) = ((n - 1 - m : Nat) : Int) := by omega
      rw [hei]
      have h1 : ((n - 1 - m : Nat) : Int) < (n : Int) := by omega
      have h2 : (0 : Int) ≤ ((n - 1 - m : Nat) : Int) := by omega
      obtain ⟨va, vc, hv, -⟩ := hR.slice
      subst hv
      have HR := Hid.intro hR
      have HW := Hid.intro hw
      have HNX : Hid ((List.range ((m + 1) * 3)).map (servCell (revV n V)) = (List.range (m * 3)).map (servCell (revV n V)) ++ [.slice (V (n - 1 - m)).ta (V (n - 1 - m)).nt (V (n - 1 - m)).tcap, .slice (V (n - 1 - m)).ca (V (n - 1 - m)).nc (V (n - 1 - m)).ccap, .slice (V (n - 1 - m)).xa (V (n - 1 - m)).nx (V (n - 1 - m)).xcap]) := servCells_snoc (revV n V) m
      have hz : w1.heap.size ≤ wr.heap.size := hw.size
      have hed : ((n - 1 - m : Nat) : Int) - 1 = (n : Int) - 1 - ((m + 1 : Nat) : Int) := by omega
      have HED := Hid.intro hed
      clear hR hw hs hei hed
      generalize hq : n - 1 - m = q at *
      go_wp2_with (at_builtin; refine wpList_append_any _ rfl _ _ 65 rfl w1.heap.size 83 i0 _ 3 72 Try.underlying65 hi0 hz0 hz1 hz2 rfl (by decide) _ m _ rfl (HR.out.kept (below1 wr (Obj.cells #[.slice (V q).ta (V q).nt (V q).tcap, .slice (V q).ca (V q).nc (V q).ccap, .slice (V q).xa (V q).nx (V q).xcap] 83))) (some ⟨wr.heap.size, 0, none⟩) 1 1 [.slice (V q).ta (V q).nt (V q).tcap, .slice (V q).ca (V q).nc (V q).ccap, .slice (V q).xa (V q).nx (V q).xcap] rfl rfl (alloc_news wr #[.slice (V q).ta (V q).nt (V q).tcap, .slice (V q).ca (V q).nc (V q).ccap, .slice (V q).xa (V q).nx (V q).xcap] _) (fun h => by cases h) (by intro u hu; simp at hu; rcases hu with rfl | rfl | rfl <;> rfl) (by unfold maxLen; omega) (by omega) (by simp; omega) ?_)
      intro v' w' hown hg _
      have HR2 : Hid (Row w' w1.heap.size 83 3 v' (m + 1) (servCell (revV n V))) := by
        unfold Row; rw [HNX.out]; exact hown
      have HW2 : Hid (Below w1.heap.size w1 w') := (HW.out.trans ((below1 wr _).mono hz)).grown hg (by simp; omega) (fun k hk => (HR.out.lt hk).1)
      clear hown hg c0 c1 c2
      go_wp2_with fail
      go_roundw
      case rel => exact ⟨m + 1, by omega, by rw [← HED.out], HR2.out, HW2.out⟩
      case measure => simp [intOf]
    · have hmn : n = m := by omega
      subst hmn
      obtain ⟨ba, bc, hbv, hBS⟩ := row_servs hR hn (fun i hi => by
        obtain ⟨_, _, _, hs⟩ := (HS1.out.kept hw).2 (n - 1 - i) (by omega)
        exact hs.ok)
      subst hbv
      have HBS := Hid.intro hBS
      have HWR := Hid.intro hw
      have hneg : ¬ (0 : Int) ≤ (n : Int) - 1 - (n : Int) := by omega
      have hcl := mall_any a n cap V wr (HS1.out.kept hw)
      clear hR hw hBS
      go_wp2_with fail
      refine hcl.mono ?_
      clear hcl hneg
      rintro e w2 ⟨⟨va, vn, vc, rfl, -, hyes⟩, hw2⟩
      generalize hW : w2.alloc (Obj.cells #[.int .i64 (allF n V).1, .int .i64 (allF n V).2] 30) = W
      have hBW : Below w2.heap.size w2 W := by rw [← hW]; exact below1 _ _
      have d0 : W.cell? ⟨w2.heap.size, 0, none⟩ = some (.int .i64 (allF n V).1) := by rw [← hW, World.cell?_alloc_at _ _ _ _ rfl]; rfl
      have hrW : Below wr.heap.size wr W := hw2.trans (hBW.mono hw2.size)
      have HYES : Hid ((allF n V).1 = 0 → ∃ rv, Parts (fun b => b < wr.heap.size) W (.slice va vn vc) (allP (ntS V) (seenA V) n) rv) := fun h => let ⟨rv, hp⟩ := hyes h; ⟨rv, hp.kept' hBW⟩
      have HBW : Hid (Below w1.heap.size w1 W) := HWR.out.trans (hrW.mono HWR.out.size)
      have hcl := mall_any ba n bc (revV n V) W (HBS.out.kept hrW)
      clear hyes hBW hrW hw2
      unfold faultV
      go_wp2_with fail
      clear hW
      refine hcl.mono ?_
      clear hcl
      rintro e w3 ⟨⟨xa, xn, xc, rfl, -, hyes⟩, hw3⟩
      generalize hU : w3.alloc (Obj.cells #[.int .i64 (allF n (revV n V)).1, .int .i64 (allF n (revV n V)).2] 30) = U
      have hBU : Below w3.heap.size w3 U := by rw [← hU]; exact below1 _ _
      have f0 : U.cell? ⟨w3.heap.size, 0, none⟩ = some (.int .i64 (allF n (revV n V)).1) := by rw [← hU, World.cell?_alloc_at _ _ _ _ rfl]; rfl
      have hWU : Below W.heap.size W U := hw3.trans (hBU.mono hw3.size)
      have g0 := keptCell hWU d0
      have HYES2 : Hid ((allF n (revV n V)).1 = 0 → ∃ rv, Parts (fun b => b < W.heap.size) U (.slice xa xn xc) (allP (ntS (revV n V)) (seenA (revV n V)) n) rv) := fun h => let ⟨rv, hp⟩ := hyes h; ⟨rv, hp.kept' hBU⟩
      have HYES1 : Hid ((allF n V).1 = 0 → ∃ rv, Parts (fun b => b < wr.heap.size) U (.slice va vn vc) (allP (ntS V) (seenA V) n) rv) := fun h => let ⟨rv, hp⟩ := HYES.out h; ⟨rv, hp.kept' hWU⟩
      have HBU : Hid (Below w.heap.size w U) := HB1.out.trans ((HBW.out.trans (hWU.mono HBW.out.size)).mono HB1.out.size)
      have hiff := all_rev (n := n) (V := V)
      clear hyes hBU hWU hw3 HYES HBW d0
      unfold faultV
      by_cases h0 : (allF n V).1 = 0
      case neg =>
        have h1 : ¬ (allF n (revV n V)).1 = 0 := fun h => h0 (hiff.1 h)
        have e1 : ((allF n V).1 != 0) = true := by simpa using h0
        have e2 : ((allF n V).1 == 0) = false := by simpa using h0
        have e3 : ((allF n (revV n V)).1 != 0) = true := by simpa using h1
        have e4 : ((allF n (revV n V)).1 == 0) = false := by simpa using h1
        clear h0 h1 hiff HYES1 HYES2
        generalize allF n V = r at *
        generalize allF n (revV n V) = r' at *
        go_wp2_with fail
        go_ret
        exact ⟨rfl, HBU.out⟩
      have h1 : (allF n (revV n V)).1 = 0 := hiff.2 h0
      have e1 : ((allF n V).1 != 0) = false := by simpa using h0
      have e3 : ((allF n (revV n V)).1 != 0) = false := by simpa using h1
      obtain ⟨rv, hP⟩ := HYES1.out h0
      obtain ⟨rv', hP'⟩ := HYES2.out h1
      obtain ⟨hlen, hal⟩ := alike_all h0
      obtain ⟨hn5, hok, -, -⟩ := part_right h0
      have hfew := few_all (n := ntS V) (S := seenA V) n (fun q hq => (seeF_right (hok q hq)).few) (fun q hq j hj => ((right_run (seeF_right (hok q hq)) (V q).nc).fld j hj).few)
      have hl40 : (allP (ntS V) (seenA V) n).length ≤ 40 := by have := hfew.len; omega
      have hfsl : ∀ i, i < (allP (ntS V) (seenA V) n).length → (nth (allP (ntS V) (seenA V) n) i).fs.length ≤ 400 := fun i hi => by have := hfew.fs i hi; omega
      clear h0 h1 hiff HYES1 HYES2 hok hfew
      obtain rfl := hP.shape
      obtain rfl := hP'.shape
      generalize allP (ntS V) (seenA V) n = L at *
      generalize allP (ntS (revV n V)) (seenA (revV n V)) n = L' at *
      generalize allF n V = r at *
      generalize allF n (revV n V) = r' at *
      have HP := Hid.intro hP
      have HP' := Hid.intro hP'
      have HAL := Hid.intro hal
      have HFL := Hid.intro hfsl
      have HLEN := Hid.intro hlen
      rw [hlen]
      clear hP hP' hal hfsl hlen
      go_wp2_with fail
      clear hU f0 g0
      go_loopw [62] (fun i wr => ∃ k : Nat, k ≤ L.length ∧ i = .int .i64 k ∧ Below U.heap.size U wr) (fun i _ => L.length - (intOf i).toNat)
      case atStart => exact ⟨0, Nat.zero_le _, rfl, Below.refl _ _⟩
      case round =>
        obtain ⟨i, hk, rfl, hw⟩ := hrel
        by_cases hlt : i < L.length
        · have hPr := HP.out.kept' hw
          have hPr' := HP'.out.kept' hw
          have hlt2 : i < L'.length := by rw [HLEN.out]; exact hlt
          have hal := HAL.out i hlt
          have hfl := HFL.out i hlt
          obtain ⟨g, cap', a1, c1, a2, c2, a3, c3, hv, e1', e2', e3', k0, k1, k2, k3⟩ := hPr.aggs hlt
          cases hv
          obtain ⟨g', cap'', b1, t1, b2, t2, b3, t3, hv, e4, e5, e6, k0', k1', k2', k3'⟩ := hPr'.aggs hlt2
          simp only [Value.slice.injEq] at hv
          obtain ⟨rfl, -, rfl⟩ := hv
          rw [hal.os] at k2 e2'
          rw [hal.name] at k0'
          rw [hal.fs] at k1' e4
          rw [hal.os'] at k2' e5
          rw [hal.hs] at k3'
          have hlt' : (i : Int) < (L.length : Int) := by omega
          have hi0 : (0 : Int) ≤ (i : Int) := by omega
          have R0 : Row wr 0 79 3 (.slice a1 (nth L i).fs.length c1) (nth L i).fs.length (fieldCell (fsN (nth L i))) := by rw [← e1']; exact hPr.rows 0 i (by decide) hlt
          have R0' : Row wr 0 79 3 (.slice b1 (nth L i).fs.length t1) (nth L i).fs.length (fieldCell (fsN (nth L' i))) := by
            have h1 : Row wr 0 79 3 (rv' 0 i) (nth L' i).fs.length (fieldCell (fsN (nth L' i))) := hPr'.rows 0 i (by decide) hlt2
            rw [hal.fs, e4] at h1; exact h1
          have R1 : Row wr 0 81 3 (.slice a2 (nth L i).fs.length c2) (nth L i).fs.length (ownerCell (osN (nth L i))) := by
            have h1 : Row wr 0 81 3 (rv 1 i) (nth L i).os.length (ownerCell (osN (nth L i))) := hPr.rows 1 i (by decide) hlt
            rw [hal.os, e2'] at h1; exact h1
          have R1' : Row wr 0 81 3 (.slice b2 (nth L i).fs.length t2) (nth L i).fs.length (ownerCell (osN (nth L' i))) := by
            have h1 : Row wr 0 81 3 (rv' 1 i) (nth L' i).os.length (ownerCell (osN (nth L' i))) := hPr'.rows 1 i (by decide) hlt2
            rw [hal.os', e5] at h1; exact h1
          have hgd := hPr.good i hlt
          have hgd' := hPr'.good i hlt2
          obtain ⟨a9, c9, e9, -, hFA⟩ := R0.fieldsAt (hgd.len 0) hgd.fs
          cases e9
          obtain ⟨b9, t9, e9, -, hFA'⟩ := R0'.fieldsAt (hgd.len 0) (fun j hj => hgd'.fs j (by rw [hal.fs]; exact hj))
          cases e9
          generalize hX : wr.alloc (Obj.cells #[.string (nth L i).name, .slice a1 (nth L i).fs.length c1, .slice a2 (nth L i).fs.length c2, .slice a3 (nth L i).hs.length c3] 76) = X
          have hBX : Below wr.heap.size wr X := by rw [← hX]; exact below1 _ _
          have hbx : X.heap[wr.heap.size]? = some (.cells #[.string (nth L i).name, .slice a1 (nth L i).fs.length c1, .slice a2 (nth L i).fs.length c2, .slice a3 (nth L i).hs.length c3] 76 (0, 0)) := by rw [← hX]; exact heap_alloc_new _ _
          have x0 : X.cell? ⟨wr.heap.size, 0, none⟩ = some (.string (nth L i).name) := by simp [World.cell?, hbx]
          have x1 : X.cell? ⟨wr.heap.size, 1, none⟩ = some (.slice a1 (nth L i).fs.length c1) := by simp [World.cell?, hbx]
          have x2 : X.cell? ⟨wr.heap.size, 2, none⟩ = some (.slice a2 (nth L i).fs.length c2) := by simp [World.cell?, hbx]
          have x3 : X.cell? ⟨wr.heap.size, 3, none⟩ = some (.slice a3 (nth L i).hs.length c3) := by simp [World.cell?, hbx]
          have q0 := keptCell hBX k0'
          have q1 := keptCell hBX k1'
          have q2 := keptCell hBX k2'
          have q3 := keptCell hBX k3'
          have HX : Hid (Below U.heap.size U X) := hw.trans (hBX.mono hw.size)
          have HFA := Hid.intro (hFA.kept hBX)
          have HFA' := Hid.intro (hFA'.kept hBX)
          have HR1 := Hid.intro (R1.kept hBX)
          have HR1' := Hid.intro (R1'.kept hBX)
          have hea := hal.each
          rw [hal.fs] at hea
          have HEA := Hid.intro hea
          clear hea
          have y0 := cell_regrown x0
          have y1 := cell_regrown x1
          have y3 := cell_regrown x3
          have z0 := cell_regrown q0
          have z1 := cell_regrown q1
          have z3 := cell_regrown q3
          clear hPr hPr' hal hgd hgd' R0 R0' R1 R1' hFA hFA' hBX hbx hw e1' e2' e3' e4 e5 e6 k0' k1' k2' k3'
          go_wp2_with fail
          clear hX k0 k1 k2 k3
          refine wp_region_quiet_below (by kernel_rfl) (by kernel_rfl) ?_
          repeat (go_big_quiet_step (fail))
          refine wpQuiet_nil ?_
          intro _ hw'
          obtain ⟨⟨dq, osq⟩, hw''⟩ := hw'
          subst hw''
          have hBQ := below_regrown X dq osq
          have x1 := keptCell hBQ x1
          have x2 := keptCell hBQ x2
          have q1 := keptCell hBQ q1
          have q2 := keptCell hBQ q2
          have HQ : Hid (Below U.heap.size U (grow (redrawn X dq) osq)) := HX.out.trans (hBQ.mono HX.out.size)
          have HFQ := Hid.intro (HFA.out.kept hBQ)
          have HFQ' := Hid.intro (HFA'.out.kept hBQ)
          have HRQ := Hid.intro (HR1.out.kept hBQ)
          have HRQ' := Hid.intro (HR1'.out.kept hBQ)
          clear hBQ y0 y1 y3 z0 z1 z3 HFA HFA' HR1 HR1' x0 x3 q0 q3
          generalize grow (redrawn X dq) osq = Q at *
          generalize wr.heap.size = bx at *
          go_wp2_with fail
          go_loopw [107] (fun j wr => ∃ k : Nat, k ≤ (nth L i).fs.length ∧ j = .int .i64 k ∧ Below Q.heap.size Q wr) (fun j _ => (nth L i).fs.length - (intOf j).toNat)
          case atStart => exact ⟨0, Nat.zero_le _, rfl, Below.refl _ _⟩
          case round =>
            obtain ⟨k, hkk, rfl, hw⟩ := hrel
            by_cases hkl : k < (nth L i).fs.length
            · obtain ⟨k', sv, hk', hfi, hff, hsn, hsv, hsv'⟩ := HEA.out k hkl
              have hFr := HFQ.out.kept hw
              have hFr' := HFQ'.out.kept hw
              obtain ⟨fb, fo, hfa, f0, f1, f2, -⟩ := hFr.2 k hkl
              obtain ⟨fb', fo', hfa', f0', f1', f2', -⟩ := hFr'.2 k' hk'
              rw [hff] at f0' f1' f2'
              have RA := HRQ.out.kept hw
              have RB := HRQ'.out.kept hw
              rcases RA.shape with ⟨-, h0⟩ | ⟨ga, gca, hga, -, -, -⟩
              · omega
              rcases RB.shape with ⟨-, h0⟩ | ⟨gb, gcb, hgb, -, -, -⟩
              · omega
              simp only [Value.slice.injEq] at hga hgb
              have oa := HRQ.out
              have ob := HRQ'.out
              rw [hga.1] at RA
              rw [hgb.1] at RB
              have o0 := RA.cell (j := k * 3) (by omega)
              have o0' := RB.cell (j := k' * 3) (by omega)
              rw [ownerCell0, hsv] at o0
              rw [ownerCell0, hsv'] at o0'
              clear oa ob RA RB
              rw [hga.1] at x2 ⊢
              rw [hgb.1] at q2
              rw [hfa] at x1 ⊢
              rw [hfa'] at q1 hFr'
              have hkl' : (k : Int) < ((nth L i).fs.length : Int) := by omega
              have hk0 : (0 : Int) ≤ (k : Int) := by omega
              have hkp' : (k' : Int) < ((nth L i).fs.length : Int) := by omega
              have hkp0 : (0 : Int) ≤ (k' : Int) := by omega
              generalize hY : wr.alloc (Obj.cells #[.string (fsN (nth L i) k).name, .int .i64 (fsN (nth L i) k).kind, .string (fsN (nth L i) k).type] 79) = Y
              have hBY : Below wr.heap.size wr Y := by rw [← hY]; exact below1 _ _
              have hQY : Below Q.heap.size Q Y := hw.trans (hBY.mono hw.size)
              have y0 : Y.cell? ⟨wr.heap.size, 0, none⟩ = some (.string (fsN (nth L i) k).name) := by rw [← hY, World.cell?_alloc_at _ _ _ _ rfl]; rfl
              have y1 : Y.cell? ⟨wr.heap.size, 1, none⟩ = some (.int .i64 (fsN (nth L i) k).kind) := by rw [← hY, World.cell?_alloc_at _ _ _ _ rfl]; rfl
              have y2 : Y.cell? ⟨wr.heap.size, 2, none⟩ = some (.string (fsN (nth L i) k).type) := by rw [← hY, World.cell?_alloc_at _ _ _ _ rfl]; rfl
              have x2y := keptCell hQY x2
              have q1y := keptCell hQY q1
              have q2y := keptCell hQY q2
              have g0 := keptCell hBY f0'
              have g1 := keptCell hBY f1'
              have g2 := keptCell hBY f2'
              have p0 := keptCell hBY o0
              have p0' := keptCell hBY o0'
              have cA : ∀ d os, Calls Try.prog 21 #[.slice (some ⟨fb', fo', none⟩) (nth L i).fs.length t1, .string (fsN (nth L i) k).name] (grow (redrawn Y d) os) fun e w'' => e = .returned (.int .i64 (k' : Int)) ∧ ∃ p : Regrown, w'' = grow (redrawn Y p.d) p.os := fun d os => by
                have h1 := Calls.regrown_of (field_any (some ⟨fb', fo', none⟩) (nth L i).fs.length t1 (fsN (nth L' i)) (fsN (nth L i) k).name _ ((hFr'.kept hBY).kept (below_regrown Y d os)))
                rw [hfi] at h1; exact h1
              have r0 := cell_regrown y0
              have r1 := cell_regrown q1y
              have HQY := Hid.intro hQY
              clear hBY hQY hw hFr hFr' hfi hff hsv hsv' o0 o0' f0' f1' f2' hfa hfa' hga hgb
              go_wp2_with fail
              clear hY f0 f1 f2
              refine wp_region_quiet_below (by kernel_rfl) (by kernel_rfl) ?_
              repeat (go_big_quiet_step (first | exact cA _ _))
              refine wpQuiet_nil ?_
              intro _ hw'
              obtain ⟨⟨dq, osq⟩, hw''⟩ := hw'
              subst hw''
              have hBZ := below_regrown Y dq osq
              have s0 := keptCell hBZ y0
              have s1 := keptCell hBZ y1
              have s2 := keptCell hBZ y2
              have s3 := keptCell hBZ x2y
              have s4 := keptCell hBZ q1y
              have s5 := keptCell hBZ q2y
              have s6 := keptCell hBZ g0
              have s7 := keptCell hBZ g1
              have s8 := keptCell hBZ g2
              have s9 := keptCell hBZ p0
              have s10 := keptCell hBZ p0'
              have HZ : Hid (Below Q.heap.size Q (grow (redrawn Y dq) osq)) := HQY.out.trans (hBZ.mono HQY.out.size)
              clear hBZ cA r0 r1 y0 y1 y2 x2y q1y q2y g0 g1 g2 p0 p0' HQY
              generalize grow (redrawn Y dq) osq = R at *
              generalize wr.heap.size = by' at *
              have hkd : decide ((k' : Int) < 0) = false := decide_eq_false (by omega)
              have r0 := cell_regrown s0
              have r1 := cell_regrown s1
              have r2 := cell_regrown s2
              have r3 := cell_regrown s3
              have r4 := cell_regrown s4
              have r5 := cell_regrown s5
              have r6 := cell_regrown s6
              have r7 := cell_regrown s7
              have r8 := cell_regrown s8
              have r9 := cell_regrown s9
              have r10 := cell_regrown s10
              go_wp2_with fail
              refine wp_region_quiet_below (by kernel_rfl) (by kernel_rfl) ?_
              repeat (go_big_quiet_step (fail))
              refine wpQuiet_nil ?_
              intro _ hw'
              obtain ⟨⟨dq2, osq2⟩, hw''⟩ := hw'
              subst hw''
              have hBT := below_regrown R dq2 osq2
              have HT : Hid (Below Q.heap.size Q (grow (redrawn R dq2) osq2)) := HZ.out.trans (hBT.mono HZ.out.size)
              clear hBT r0 r1 r2 r3 r4 r5 r6 r7 r8 r9 r10 s0 s1 s2 s3 s4 s5 s6 s7 s8 s9 s10
              go_wp2_with fail
              go_roundw
              case rel => exact ⟨k + 1, by omega, by go_num, HT.out⟩
              case measure => simp [intOf]; omega
            · have HWk := Hid.intro hw
              clear hw
              have HWo : Hid (Below U.heap.size U wr) := HQ.out.trans (HWk.out.mono HQ.out.size)
              go_wp2_with fail
              go_roundw
              case rel => exact ⟨i + 1, by omega, by go_num, HWo.out⟩
              case measure => simp [intOf]; omega
        · have HW := Hid.intro hw
          clear hw
          go_wp2_with fail
          go_ret
          exact ⟨rfl, HBU.out.trans (HW.out.mono HBU.out.size)⟩
end Go.Proofs.Ytjjggefmmeminaa
