import Derived.Test.YtjjggefmmeminaaMgAll
import Derived.Test.YtjjggefmmeminaaChSameT
/-
  The contract of stitchref1.SameParts, of the same parts in two places: true.
-/
namespace Go.Proofs.Ytjjggefmmeminaa
open Go.RowKit Go.Sort Go.PlainAid

set_option maxRecDepth 100000 in
set_option maxHeartbeats 4000000 in
theorem sameParts_any (Z Z' : Nat → Prop) (a b : Option Addr) (n c m d : Nat) (L : List PPart) (rv rv' : Nat → Nat → Value) (w : World) (hP : Parts Z w (.slice a n c) L rv) (hP' : Parts Z' w (.slice b m d) L rv') (hlen : ∀ i, i < L.length → (nth L i).os.length ≤ 1000 ∧ (nth L i).hs.length ≤ 1000) :
    Calls Try.prog 36 #[.slice a n c, .slice b m d] w fun e w' => e = .returned (.bool true) ∧ Below w.heap.size w w' := by
  obtain rfl := hP.shape
  obtain rfl := hP'.shape
  have hn : L.length ≤ 9223372036854775807 := hP.nmax
  have HP := Hid.intro hP
  have HP' := Hid.intro hP'
  have HLE := Hid.intro hlen
  clear hP hP' hlen
  go_enter Try.func36, Try.ntmps36
  go_wp2_with fail
  go_loopw [15] (fun i wr => ∃ k : Nat, k ≤ L.length ∧ i = .int .i64 k ∧ Below w.heap.size w wr) (fun i _ => L.length - (intOf i).toNat)
  case atStart => exact ⟨0, Nat.zero_le _, rfl, Below.refl _ _⟩
  case round =>
    obtain ⟨i, hk, rfl, hw⟩ := hrel
    by_cases hlt : i < L.length
    · have hPr := HP.out.kept' hw
      have hPr' := HP'.out.kept' hw
      obtain ⟨hol, hhl⟩ := HLE.out i hlt
      obtain ⟨g, cap', a1, c1, a2, c2, a3, c3, hv, e1, e2, e3, k0, k1, k2, k3⟩ := hPr.aggs hlt
      cases hv
      obtain ⟨g', cap'', b1, d1, b2, d2, b3, d3, hv, e4, e5, e6, q0, q1, q2, q3⟩ := hPr'.aggs hlt
      cases hv
      have hlt' : (i : Int) < (L.length : Int) := by omega
      have hi0 : (0 : Int) ≤ (i : Int) := by omega
      have R0 : Row wr 0 79 3 (.slice a1 (nth L i).fs.length c1) (nth L i).fs.length (fieldCell (fsN (nth L i))) := by rw [← e1]; exact hPr.rows 0 i (by decide) hlt
      have R0' : Row wr 0 79 3 (.slice b1 (nth L i).fs.length d1) (nth L i).fs.length (fieldCell (fsN (nth L i))) := by rw [← e4]; exact hPr'.rows 0 i (by decide) hlt
      have R1 : Row wr 0 81 3 (.slice a2 (nth L i).os.length c2) (nth L i).os.length (ownerCell (osN (nth L i))) := by rw [← e2]; exact hPr.rows 1 i (by decide) hlt
      have R1' : Row wr 0 81 3 (.slice b2 (nth L i).os.length d2) (nth L i).os.length (ownerCell (osN (nth L i))) := by rw [← e5]; exact hPr'.rows 1 i (by decide) hlt
      have R2 : Row wr 0 81 3 (.slice a3 (nth L i).hs.length c3) (nth L i).hs.length (ownerCell (hsN (nth L i))) := by rw [← e3]; exact hPr.rows 2 i (by decide) hlt
      have R2' : Row wr 0 81 3 (.slice b3 (nth L i).hs.length d3) (nth L i).hs.length (ownerCell (hsN (nth L i))) := by rw [← e6]; exact hPr'.rows 2 i (by decide) hlt
      have hgd := hPr.good i hlt
      obtain ⟨a9, c9, e9, -, hFA⟩ := R0.fieldsAt (hgd.len 0) hgd.fs
      cases e9
      obtain ⟨b9, d9, e9, -, hFA'⟩ := R0'.fieldsAt (hgd.len 0) hgd.fs
      cases e9
      have cA : ∀ dd os, Calls Try.prog 32 #[.agg #[.string (nth L i).name, .slice a1 (nth L i).fs.length c1], .agg #[.string (nth L i).name, .slice b1 (nth L i).fs.length d1]] (grow (redrawn wr dd) os) fun e w'' => e = .returned (.bool true) ∧ ∃ p : Regrown, w'' = grow (redrawn wr p.d) p.os := fun dd os => Calls.regrown_of (sameType_any _ _ _ _ _ _ (fsN (nth L i)) _ (hFA.kept (below_regrown wr dd os)) (hFA'.kept (below_regrown wr dd os)))
      have y0 := cell_regrown k0
      have y1 := cell_regrown k1
      have y2 := cell_regrown k2
      have y3 := cell_regrown k3
      have z0 := cell_regrown q0
      have z1 := cell_regrown q1
      have z2 := cell_regrown q2
      have z3 := cell_regrown q3
      have HW := Hid.intro hw
      have HR1 := Hid.intro R1
      have HR1' := Hid.intro R1'
      have HR2 := Hid.intro R2
      have HR2' := Hid.intro R2'
      clear hPr hPr' hgd R0 R0' R1 R1' R2 R2' hFA hFA' hw e1 e2 e3 e4 e5 e6
      go_wp2_with fail
      refine wp_region_quiet_below (by kernel_rfl) (by kernel_rfl) ?_
      repeat (go_big_quiet_step (first | exact cA _ _))
      refine wpQuiet_nil ?_
      intro _ hw'
      obtain ⟨⟨dq, osq⟩, hw''⟩ := hw'
      subst hw''
      have hBQ := below_regrown wr dq osq
      have k2 := keptCell hBQ k2
      have k3 := keptCell hBQ k3
      have q2 := keptCell hBQ q2
      have q3 := keptCell hBQ q3
      have HQ : Hid (Below w.heap.size w (grow (redrawn wr dq) osq)) := HW.out.trans (hBQ.mono HW.out.size)
      have HS1 := Hid.intro (HR1.out.kept hBQ)
      have HS1' := Hid.intro (HR1'.out.kept hBQ)
      have HS2 := Hid.intro (HR2.out.kept hBQ)
      have HS2' := Hid.intro (HR2'.out.kept hBQ)
      clear hBQ cA y0 y1 y2 y3 z0 z1 z2 z3 HR1 HR1' HR2 HR2' k0 k1 q0 q1
      generalize grow (redrawn wr dq) osq = Q at *
      go_wp2_with fail
      go_loopw [66] (fun j wr => ∃ k : Nat, k ≤ (nth L i).os.length ∧ j = .int .i64 k ∧ Below Q.heap.size Q wr) (fun j _ => (nth L i).os.length - (intOf j).toNat)
      case atStart => exact ⟨0, Nat.zero_le _, rfl, Below.refl _ _⟩
      case round =>
        obtain ⟨k, hkk, rfl, hw⟩ := hrel
        by_cases hkl : k < (nth L i).os.length
        · have RA := HS1.out.kept hw
          have RB := HS1'.out.kept hw
          rcases RA.shape with ⟨-, h0⟩ | ⟨ga, gca, hga, -, -, -⟩
          · omega
          rcases RB.shape with ⟨-, h0⟩ | ⟨gb, gcb, hgb, -, -, -⟩
          · omega
          simp only [Value.slice.injEq] at hga hgb
          rw [hga.1] at RA
          rw [hgb.1] at RB
          have o0 := RA.cell (j := k * 3) (by omega)
          have o1 := RA.cell (j := k * 3 + 1) (by omega)
          have o2 := RA.cell (j := k * 3 + 2) (by omega)
          have p0 := RB.cell (j := k * 3) (by omega)
          have p1 := RB.cell (j := k * 3 + 1) (by omega)
          have p2 := RB.cell (j := k * 3 + 2) (by omega)
          rw [ownerCell0] at o0 p0
          rw [ownerCell1] at o1 p1
          rw [ownerCell2] at o2 p2
          have k2' := keptCell hw k2
          have q2' := keptCell hw q2
          rw [hga.1] at k2'
          rw [hgb.1] at q2'
          have hkl' : (k : Int) < ((nth L i).os.length : Int) := by omega
          have hk0 : (0 : Int) ≤ (k : Int) := by omega
          have HWk := Hid.intro hw
          clear RA RB hga hgb hw
          go_wp2_with fail
          go_quiet (fail)
          go_wp2_with fail
          go_roundw
          case rel => exact ⟨k + 1, by omega, by go_num, HWk.out.trans ((below_drewN _ _).mono HWk.out.size)⟩
          case measure => simp [intOf]; omega
        · have k3r := keptCell hw k3
          have q3r := keptCell hw q3
          have HE := Hid.intro hw
          have HS2r := Hid.intro (HS2.out.kept hw)
          have HS2r' := Hid.intro (HS2'.out.kept hw)
          have HQr : Hid (Below w.heap.size w wr) := HQ.out.trans (hw.mono HQ.out.size)
          clear hw
          go_wp2_with fail
          generalize wr = P at *
          go_loopw [93] (fun j wr => ∃ k : Nat, k ≤ (nth L i).hs.length ∧ j = .int .i64 k ∧ Below P.heap.size P wr) (fun j _ => (nth L i).hs.length - (intOf j).toNat)
          case atStart => exact ⟨0, Nat.zero_le _, rfl, Below.refl _ _⟩
          case round =>
            obtain ⟨k', hkk', rfl, hw⟩ := hrel
            by_cases hkl' : k' < (nth L i).hs.length
            · have RA := HS2r.out.kept hw
              have RB := HS2r'.out.kept hw
              rcases RA.shape with ⟨-, h0⟩ | ⟨ga, gca, hga, -, -, -⟩
              · omega
              rcases RB.shape with ⟨-, h0⟩ | ⟨gb, gcb, hgb, -, -, -⟩
              · omega
              simp only [Value.slice.injEq] at hga hgb
              rw [hga.1] at RA
              rw [hgb.1] at RB
              have o0 := RA.cell (j := k' * 3) (by omega)
              have o1 := RA.cell (j := k' * 3 + 1) (by omega)
              have o2 := RA.cell (j := k' * 3 + 2) (by omega)
              have p0 := RB.cell (j := k' * 3) (by omega)
              have p1 := RB.cell (j := k' * 3 + 1) (by omega)
              have p2 := RB.cell (j := k' * 3 + 2) (by omega)
              rw [ownerCell0] at o0 p0
              rw [ownerCell1] at o1 p1
              rw [ownerCell2] at o2 p2
              have k3' := keptCell hw k3r
              have q3' := keptCell hw q3r
              rw [hga.1] at k3'
              rw [hgb.1] at q3'
              have hkl2 : (k' : Int) < ((nth L i).hs.length : Int) := by omega
              have hk0 : (0 : Int) ≤ (k' : Int) := by omega
              have HWk := Hid.intro hw
              clear RA RB hga hgb hw
              go_wp2_with fail
              go_quiet (fail)
              go_wp2_with fail
              go_roundw
              case rel => exact ⟨k' + 1, by omega, by go_num, HWk.out.trans ((below_drewN _ _).mono HWk.out.size)⟩
              case measure => simp [intOf]; omega
            · have HWo : Hid (Below w.heap.size w wr) := HQr.out.trans (hw.mono HQr.out.size)
              clear hw
              go_wp2_with fail
              go_roundw
              case rel => exact ⟨i + 1, by omega, by go_num, HWo.out⟩
              case measure => simp [intOf]; omega
    · have HW := Hid.intro hw
      clear hw
      go_wp2_with fail
      go_ret
      exact ⟨rfl, HW.out⟩
end Go.Proofs.Ytjjggefmmeminaa
