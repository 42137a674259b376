import Derived.Test.YtjjggefmmeminaaMgFindF
import Derived.Test.YtjjggefmmeminaaJMn
import Derived.Test.YtjjggefmmeminaaMgSeeReg
import Derived.Deep.CutRange
/-
  The walk of stitchlaw3.MergeRight: it answers true, and keeps what is there.
-/
namespace Go.Proofs.Ytjjggefmmeminaa
open Go.RowKit Go.Sort Go.PlainAid

theorem int_ne {a : Nat} (h : a ≠ 0) : ((a : Int) == 0) = false := by simpa using h

set_option maxRecDepth 100000 in
set_option maxHeartbeats 4000000 in
theorem mergeRight_any (a : Option Addr) (n cap : Nat) (V : Nat → LServ) (w : World) (hS : ServsAt w a n V) :
    Calls Try.prog 11 #[.slice a n cap] w fun e w' => e = .returned (.bool true) ∧ Below w.heap.size w w' := by
  have hn : n ≤ 9223372036854775807 := hS.1
  have HS := Hid.intro hS
  clear hS
  go_enter Try.func11, Try.ntmps11
  go_wp2_with fail
  refine (alive3_any w).mono ?_
  rintro e w1 ⟨rfl, hB1⟩
  go_wp2_with fail
  refine (mall_any a n cap V w1 (HS.out.kept hB1)).mono ?_
  rintro e w2 ⟨⟨va, vn, vc, rfl, hno, hyes⟩, hw2⟩
  have HB2 : Hid (Below w.heap.size w w2) := hB1.trans (hw2.mono hB1.size)
  clear hw2 hB1
  unfold faultV
  by_cases h0 : (allF n V).1 = 0
  case neg =>
    have hb : ((allF n V).1 != 0) = true := by simpa using h0
    obtain rfl := hno h0
    clear h0 hno hyes
    generalize allF n V = r at *
    go_wp2_with fail
    go_ret
    exact ⟨rfl, HB2.out.trans ((below1 w2 _).mono HB2.out.size)⟩
  have hb : ((allF n V).1 != 0) = false := by simpa using h0
  obtain ⟨rv, hP⟩ := hyes h0
  obtain ⟨hn5, hok, -, hPR⟩ := part_right h0
  have hRise : Rise (allP (ntS V) (seenA V) n) := all_rise n
  have hfew := few_all (n := ntS V) (S := seenA V) n (fun q hq => (seeF_right (hok q hq)).few) (fun q hq j hj => ((right_run (seeF_right (hok q hq)) (V q).nc).fld j hj).few)
  have hlen : (allP (ntS V) (seenA V) n).length ≤ 40 := by have := hfew.len; omega
  have hfsl : ∀ i, i < (allP (ntS V) (seenA V) n).length → (nth (allP (ntS V) (seenA V) n) i).fs.length ≤ 400 := fun i hi => by have := hfew.fs i hi; omega
  clear h0 hno hyes hfew
  obtain rfl := hP.shape
  generalize allP (ntS V) (seenA V) n = L at *
  generalize allF n V = r at *
  generalize hW : w2.alloc (Obj.cells #[.int .i64 r.1, .int .i64 r.2] 30) = W
  have hBW : Below w2.heap.size w2 W := by rw [← hW]; exact below1 _ _
  have d0 : W.cell? ⟨w2.heap.size, 0, none⟩ = some (.int .i64 r.1) := by rw [← hW, World.cell?_alloc_at _ _ _ _ rfl]; rfl
  have HPW := Hid.intro (hP.kept' hBW)
  have HBW : Hid (Below w.heap.size w W) := HB2.out.trans (hBW.mono HB2.out.size)
  have HPR := Hid.intro hPR
  have HRI := Hid.intro hRise
  have HOK := Hid.intro hok
  have HFL := Hid.intro hfsl
  clear hP hBW hPR hRise hok hfsl HB2
  go_wp2_with fail
  clear hW d0
  go_loopw [31] (fun i wr => ∃ k : Nat, k ≤ L.length ∧ i = .int .i64 k ∧ Below W.heap.size W wr) (fun i _ => L.length - (intOf i).toNat)
  case atStart => exact ⟨0, Nat.zero_le _, rfl, Below.refl _ _⟩
  case round =>
    obtain ⟨i, hk, rfl, hw⟩ := hrel
    by_cases hlt : i < L.length
    · have hPr := HPW.out.kept' hw
      obtain ⟨g, cap', a1, c1, a2, c2, a3, c3, hv, e1, e2, e3, k0, k1, k2, k3⟩ := hPr.aggs hlt
      cases hv
      have hpr := HPR.out i hlt
      have hfl := HFL.out i hlt
      have hol := hpr.olen
      rw [hol] at k2 e2
      have hhs := int_ne hpr.hlen
      have hlt' : (i : Int) < (L.length : Int) := by omega
      have hi0 : (0 : Int) ≤ (i : Int) := by omega
      have R0 := hPr.rows 0 i (by decide) hlt
      have R1 := hPr.rows 1 i (by decide) hlt
      have hgd := hPr.good i hlt
      have R0' : Row wr 0 79 3 (.slice a1 (nth L i).fs.length c1) (nth L i).fs.length (fieldCell (fsN (nth L i))) := by rw [← e1]; exact R0
      have R1' : Row wr 0 81 3 (.slice a2 (nth L i).fs.length c2) (nth L i).fs.length (ownerCell (osN (nth L i))) := by
        have h1 : Row wr 0 81 3 (rv 1 i) (nth L i).os.length (ownerCell (osN (nth L i))) := R1
        rw [hol, e2] at h1; exact h1
      have hprev : ∀ hi : 0 < i, wr.cell? ⟨g, (i - 1) * 4, none⟩ = some (.string (nth L (i - 1)).name) ∧ Op.bytesLess (nth L (i - 1)).name.toList (nth L i).name.toList = true := fun hi => ⟨(hPr.cells (by omega)).1, by rw [lt_eq]; exact HRI.out (i - 1) i (by omega) hlt⟩
      generalize hX : wr.alloc (Obj.cells #[.string (nth L i).name, .slice a1 (nth L i).fs.length c1, .slice a2 (nth L i).fs.length c2, .slice a3 (nth L i).hs.length c3] 76) = X
      have hBX : Below wr.heap.size wr X := by rw [← hX]; exact below1 _ _
      have hbx : X.heap[wr.heap.size]? = some (.cells #[.string (nth L i).name, .slice a1 (nth L i).fs.length c1, .slice a2 (nth L i).fs.length c2, .slice a3 (nth L i).hs.length c3] 76 (0, 0)) := by rw [← hX]; exact heap_alloc_new _ _
      have x0 : X.cell? ⟨wr.heap.size, 0, none⟩ = some (.string (nth L i).name) := by simp [World.cell?, hbx]
      have x1 : X.cell? ⟨wr.heap.size, 1, none⟩ = some (.slice a1 (nth L i).fs.length c1) := by simp [World.cell?, hbx]
      have x2 : X.cell? ⟨wr.heap.size, 2, none⟩ = some (.slice a2 (nth L i).fs.length c2) := by simp [World.cell?, hbx]
      have x3 : X.cell? ⟨wr.heap.size, 3, none⟩ = some (.slice a3 (nth L i).hs.length c3) := by simp [World.cell?, hbx]
      have HX : Hid (Below W.heap.size W X) := hw.trans (hBX.mono hw.size)
      have HPRV : Hid (∀ hi : 0 < i, X.cell? ⟨g, (i - 1) * 4, none⟩ = some (.string (nth L (i - 1)).name) ∧ Op.bytesLess (nth L (i - 1)).name.toList (nth L i).name.toList = true) := fun hi => ⟨keptCell hBX (hprev hi).1, (hprev hi).2⟩
      obtain ⟨a9, c9, e9, -, hFA⟩ := R0'.fieldsAt (hgd.len 0) hgd.fs
      cases e9
      have HFA := Hid.intro (hFA.kept hBX)
      have HR1 := Hid.intro (R1'.kept hBX)
      have HPP := Hid.intro hpr
      clear hPr hpr R0 R1 R0' R1' hgd hprev hBX hbx hFA hw e1 e2 e3
      go_wp2_with fail
      clear hX k0 k1 k2 k3
      generalize wr.heap.size = bx at *
      go_cut [31, 66] from 31 to 162 (fun i' c wx => i' = .int .i64 (i : Int) ∧ c = .bool false ∧ Below X.heap.size X wx)
      case first =>
        by_cases hi1 : 0 < i
        · obtain ⟨y0, y1⟩ := HPRV.out hi1
          have hi1' : (0 : Int) < (i : Int) := by omega
          have hi2 : (0 : Int) ≤ (i : Int) - 1 := by omega
          have hi3 : (i : Int) - 1 < (L.length : Int) := by omega
          have hi4 : ((i : Int) - 1).toNat = i - 1 := by omega
          go_quiet (fail)
          go_wp2_with fail
          go_meet
          exact ⟨rfl, rfl, below_drewN X _⟩
        · have hi1' : ¬ (0 : Int) < (i : Int) := by omega
          go_quiet (fail)
          go_wp2_with fail
          go_meet
          exact ⟨rfl, rfl, below_drewN X _⟩
      case rest =>
        obtain ⟨wo, hren⟩ : ∃ wo, wo = wc := ⟨_, rfl⟩
        subst hren
        obtain ⟨rfl, rfl, hwc⟩ := hcut
        have x0 := keptCell hwc x0
        have x1 := keptCell hwc x1
        have x2 := keptCell hwc x2
        have HC : Hid (Below W.heap.size W wo) := HX.out.trans (hwc.mono HX.out.size)
        have HFC := Hid.intro (HFA.out.kept hwc)
        have HRC := Hid.intro (HR1.out.kept hwc)
        clear hwc HFA HR1 HPRV x3
        go_wp2_with fail
        go_loopw [71] (fun j wr => ∃ k : Nat, k ≤ (nth L i).fs.length ∧ j = .int .i64 k ∧ Below wo.heap.size wo wr) (fun j _ => (nth L i).fs.length - (intOf j).toNat)
        case atStart => exact ⟨0, Nat.zero_le _, rfl, Below.refl _ _⟩
        case round =>
          obtain ⟨k, hkk, rfl, hw⟩ := hrel
          by_cases hkl : k < (nth L i).fs.length
          · obtain ⟨fb, fo, hfa, f0, f1, f2, -⟩ := (HFC.out.kept hw).2 k hkl
            rw [hfa] at x1 HFC ⊢
            have hkl' : (k : Int) < ((nth L i).fs.length : Int) := by omega
            have hk0 : (0 : Int) ≤ (k : Int) := by omega
            generalize hY : wr.alloc (Obj.cells #[.string (fsN (nth L i) k).name, .int .i64 (fsN (nth L i) k).kind, .string (fsN (nth L i) k).type] 79) = Y
            have hBY : Below wr.heap.size wr Y := by rw [← hY]; exact below1 _ _
            have y0 : Y.cell? ⟨wr.heap.size, 0, none⟩ = some (.string (fsN (nth L i) k).name) := by rw [← hY, World.cell?_alloc_at _ _ _ _ rfl]; rfl
            have y1 : Y.cell? ⟨wr.heap.size, 1, none⟩ = some (.int .i64 (fsN (nth L i) k).kind) := by rw [← hY, World.cell?_alloc_at _ _ _ _ rfl]; rfl
            have y2 : Y.cell? ⟨wr.heap.size, 2, none⟩ = some (.string (fsN (nth L i) k).type) := by rw [← hY, World.cell?_alloc_at _ _ _ _ rfl]; rfl
            have hCY : Below wo.heap.size wo Y := hw.trans (hBY.mono hw.size)
            have x0' := keptCell hCY x0
            have x1' := keptCell hCY x1
            have x2' := keptCell hCY x2
            have HY : Hid (Below W.heap.size W Y) := HC.out.trans (hCY.mono HC.out.size)
            have HCY := Hid.intro hCY
            have HFY := Hid.intro (HFC.out.kept hCY)
            have HRY := Hid.intro (HRC.out.kept hCY)
            clear hBY hCY hw
            go_upto_region 14 with fail
            clear hY f0 f1 f2
            generalize wr.heap.size = by' at *
            go_cut [71, 95] from 71 to 161 (fun j c wx => j = .int .i64 (k : Int) ∧ c = .bool false ∧ Below Y.heap.size Y wx)
            case first =>
              have hcl := field_any (some ⟨fb, fo, none⟩) (nth L i).fs.length c1 (fsN (nth L i)) (fsN (nth L i) k).name Y HFY.out
              rw [HPP.out.self k hkl] at hcl
              go_wp2_with fail
              refine hcl.mono ?_
              clear hcl
              rintro e w3 ⟨rfl, hw3⟩
              have z1 := keptCell hw3 y1
              have z2 := keptCell hw3 y2
              by_cases hkd : (fsN (nth L i) k).kind = 1
              · rw [hkd] at z1
                have HW3 := Hid.intro hw3
                clear hw3
                go_wp2_with fail
                go_meet
                exact ⟨rfl, rfl, HW3.out⟩
              · have hkb : ((fsN (nth L i) k).kind != 1) = true := by simpa using hkd
                have hge := HPP.out.find k hkl hkd
                have hcl := mfind_any _ _ L rv (fsN (nth L i) k).type w3 (HPW.out.kept' (HY.out.trans (hw3.mono HY.out.size)))
                have HW3 := Hid.intro hw3
                clear hw3
                generalize mfind L (fsN (nth L i) k).type = mf at *
                go_wp2_with fail
                refine hcl.mono ?_
                clear hcl
                rintro e w4 ⟨rfl, hw4⟩
                have HW4 := Hid.intro (HW3.out.trans (hw4.mono HW3.out.size))
                clear hw4
                go_wp2_with fail
                go_meet
                exact ⟨rfl, by rw [decide_eq_false (by omega)], HW4.out⟩
            case rest =>
              obtain ⟨wq, hren⟩ : ∃ wq, wq = wc := ⟨_, rfl⟩
              subst hren
              obtain ⟨rfl, rfl, hwq⟩ := hcut
              have HQ : Hid (Below W.heap.size W wq) := HY.out.trans (hwq.mono HY.out.size)
              have x0q := keptCell hwq x0'
              have x2q := keptCell hwq x2'
              have y0q := keptCell hwq y0
              have RQ := HRY.out.kept hwq
              rcases RQ.shape with ⟨-, h0⟩ | ⟨gb, gc, hgv, -, -, -⟩
              · omega
              cases hgv
              have o0 := RQ.cell (j := k * 3) (by omega)
              have o1 := RQ.cell (j := k * 3 + 1) (by omega)
              have o2 := RQ.cell (j := k * 3 + 2) (by omega)
              rw [ownerCell0] at o0
              rw [ownerCell1] at o1
              rw [ownerCell2] at o2
              obtain ⟨s, jj, q, hs, hsv, hjj, hjo, hjn, hjz, hfi, hqf, hqo⟩ := HPP.out.own k hkl
              rw [hsv] at o0
              generalize hO : wq.alloc (Obj.cells #[.int .i64 (s : Int), .string (osN (nth L i) k).type, .string (osN (nth L i) k).field] 81) = O
              have hBO : Below wq.heap.size wq O := by rw [← hO]; exact below1 _ _
              have p0 : O.cell? ⟨wq.heap.size, 0, none⟩ = some (.int .i64 (s : Int)) := by rw [← hO, World.cell?_alloc_at _ _ _ _ rfl]; rfl
              have p1 : O.cell? ⟨wq.heap.size, 1, none⟩ = some (.string (osN (nth L i) k).type) := by rw [← hO, World.cell?_alloc_at _ _ _ _ rfl]; rfl
              have p2 : O.cell? ⟨wq.heap.size, 2, none⟩ = some (.string (osN (nth L i) k).field) := by rw [← hO, World.cell?_alloc_at _ _ _ _ rfl]; rfl
              have HO : Hid (Below W.heap.size W O) := HQ.out.trans (hBO.mono HQ.out.size)
              have hYO : Below Y.heap.size Y O := hwq.trans (hBO.mono hwq.size)
              have HCO : Hid (Below wo.heap.size wo O) := HCY.out.trans (hYO.mono HCY.out.size)
              clear hYO
              have x0o := keptCell hBO x0q
              have y0o := keptCell hBO y0q
              obtain ⟨sb, so, hsa, hsv'⟩ := (HS.out.kept (HBW.out.trans (HO.out.mono HBW.out.size))).2 s hs
              subst hsa
              have s0 := hsv'.c0
              have s1 := hsv'.c1
              have HSV := Hid.intro hsv'.ok
              have hs' : (s : Int) < (n : Int) := by omega
              have hs0 : (0 : Int) ≤ (s : Int) := by omega
              have hpO : wq.heap.size < O.heap.size := block_lt_of_cell p0
              have hnt8 : (V s).nt ≤ 8 := (seeF_right (HOK.out s hs)).few
              have HRS : Hid (RightS (V s).nt (seenS (V s))) := right_run (seeF_right (HOK.out s hs)) (V s).nc
              clear hsv' hBO RQ hwq
              go_upto_region 17 with fail
              clear hO o0 o1 o2 x2q
              generalize wq.heap.size = bo at *
              go_cut [10, 11, 71] from 71 to 161 (fun p p' j wx => j = .int .i64 (k : Int) ∧ ∃ ua uc bf fv ov base, p = .slice ua (V s).nt uc ∧ p' = .pointer (some ⟨bf, 0, none⟩) ∧ wx.cell? ⟨bf, 0, none⟩ = some (.int .i64 0) ∧ Seens wx base (.slice ua (V s).nt uc) (V s).nt fv ov (seenS (V s)) ∧ Below O.heap.size O wx)
              case first =>
                refine wp_region_as (by kernel_rfl) (by kernel_rfl) [102, 103, 104, 105, 106, 107, 108, 109, 110, 111, 112, 113, 114, 101, 115, 116, 11, 10] (by kernel_rfl) (by kernel_rfl) (by kernel_rfl) (fun _ => 99) (mA O.heap.size bo sb so n cap s (V s)) (fun _ _ wz => Below O.heap.size O wz) (Below.refl _ _).drew ?_ ?_
                · intro L' st wz i o hG hL hcl hA hF hi' hl ha
                  have keep : ∀ (i : Nat) (wz' : World), i ≠ 18 → Below wz.heap.size wz wz' → ∀ k x, mA O.heap.size bo sb so n cap s (V s) L' k x wz → mA O.heap.size bo sb so n cap s (V s) (also L' i) k x wz' := fun i wz' hne hb k x h => mA_kept k h hb (by unfold also; simp [Ne.symm hne])
                  have h99 : L' 99 = false := by
                    cases h : L' 99 with
                    | false => rfl
                    | true => exact absurd (hL 99 h) (by decide)
                  have p0z := keptCell hG p0
                  have s0z := keptCell hG s0
                  have s1z := keptCell hG s1
                  obtain _ | i := i
                  · obtain rfl := Option.some.inj hi'
                    exact opStep_value (v := st 0) (w' := wz) rfl ⟨hG, hF 0 (by decide), fun k _ _ _ h => keep 0 wz (by decide) (Below.refl _ _) k _ h⟩
                  obtain _ | i := i
                  · obtain rfl := Option.some.inj hi'
                    have e1 : st 9 = .pointer (some ⟨bo, 0, none⟩) := hF 9 (by decide)
                    refine opStep_value (v := .pointer (some ⟨bo, 0, none⟩)) (w' := wz) ?_ ⟨hG, rfl, fun k _ _ _ h => keep 1 wz (by decide) (Below.refl _ _) k _ h⟩
                    simp only [execOp, evalS, e1]
                    go_simp
                  obtain _ | i := i
                  · obtain rfl := Option.some.inj hi'
                    have e1 : st 103 = .pointer (some ⟨bo, 0, none⟩) := hA 1 (ha { on := 1, ground := .data } (by simp) rfl) h99
                    refine opStep_value (v := .int .i64 (s : Int)) (w' := wz) ?_ ⟨hG, rfl, fun k _ _ _ h => keep 2 wz (by decide) (Below.refl _ _) k _ h⟩
                    simp only [execOp, evalS, e1]
                    go_simp
                  obtain _ | i := i
                  · obtain rfl := Option.some.inj hi'
                    have e1 : st 102 = .slice (some ⟨sb, so, none⟩) n cap := hA 0 (ha { on := 0, ground := .data } (by simp) rfl) h99
                    have e2 : st 104 = .int .i64 (s : Int) := hA 2 (ha { on := 2, ground := .data } (by simp) rfl) h99
                    refine opStep_value (v := .pointer (some ⟨sb, so + s * 3, none⟩)) (w' := wz) ?_ ⟨hG, rfl, fun k _ _ _ h => keep 3 wz (by decide) (Below.refl _ _) k _ h⟩
                    simp only [execOp, evalS, e1, e2]
                    go_simp
                  obtain _ | i := i
                  · obtain rfl := Option.some.inj hi'
                    have e1 : st 105 = .pointer (some ⟨sb, so + s * 3, none⟩) := hA 3 (ha { on := 3, ground := .data } (by simp) rfl) h99
                    refine opStep_value (v := .pointer (some ⟨sb, so + s * 3, none⟩)) (w' := wz) ?_ ⟨hG, rfl, fun k _ _ _ h => keep 4 wz (by decide) (Below.refl _ _) k _ h⟩
                    simp only [execOp, evalS, e1]
                    go_simp
                  obtain _ | i := i
                  · obtain rfl := Option.some.inj hi'
                    have e1 : st 106 = .pointer (some ⟨sb, so + s * 3, none⟩) := hA 4 (ha { on := 4, ground := .data } (by simp) rfl) h99
                    refine opStep_value (v := .slice (V s).ta (V s).nt (V s).tcap) (w' := wz) ?_ ⟨hG, rfl, fun k _ _ _ h => keep 5 wz (by decide) (Below.refl _ _) k _ h⟩
                    simp only [execOp, evalS, e1]
                    go_simp
                  obtain _ | i := i
                  · obtain rfl := Option.some.inj hi'
                    exact opStep_value (v := st 0) (w' := wz) rfl ⟨hG, hF 0 (by decide), fun k _ _ _ h => keep 6 wz (by decide) (Below.refl _ _) k _ h⟩
                  obtain _ | i := i
                  · obtain rfl := Option.some.inj hi'
                    have e1 : st 9 = .pointer (some ⟨bo, 0, none⟩) := hF 9 (by decide)
                    refine opStep_value (v := .pointer (some ⟨bo, 0, none⟩)) (w' := wz) ?_ ⟨hG, rfl, fun k _ _ _ h => keep 7 wz (by decide) (Below.refl _ _) k _ h⟩
                    simp only [execOp, evalS, e1]
                    go_simp
                  obtain _ | i := i
                  · obtain rfl := Option.some.inj hi'
                    have e1 : st 109 = .pointer (some ⟨bo, 0, none⟩) := hA 7 (ha { on := 7, ground := .data } (by simp) rfl) h99
                    refine opStep_value (v := .int .i64 (s : Int)) (w' := wz) ?_ ⟨hG, rfl, fun k _ _ _ h => keep 8 wz (by decide) (Below.refl _ _) k _ h⟩
                    simp only [execOp, evalS, e1]
                    go_simp
                  obtain _ | i := i
                  · obtain rfl := Option.some.inj hi'
                    have e1 : st 108 = .slice (some ⟨sb, so, none⟩) n cap := hA 6 (ha { on := 6, ground := .data } (by simp) rfl) h99
                    have e2 : st 110 = .int .i64 (s : Int) := hA 8 (ha { on := 8, ground := .data } (by simp) rfl) h99
                    refine opStep_value (v := .pointer (some ⟨sb, so + s * 3, none⟩)) (w' := wz) ?_ ⟨hG, rfl, fun k _ _ _ h => keep 9 wz (by decide) (Below.refl _ _) k _ h⟩
                    simp only [execOp, evalS, e1, e2]
                    go_simp
                  obtain _ | i := i
                  · obtain rfl := Option.some.inj hi'
                    have e1 : st 111 = .pointer (some ⟨sb, so + s * 3, none⟩) := hA 9 (ha { on := 9, ground := .data } (by simp) rfl) h99
                    refine opStep_value (v := .pointer (some ⟨sb, so + s * 3 + 1, none⟩)) (w' := wz) ?_ ⟨hG, rfl, fun k _ _ _ h => keep 10 wz (by decide) (Below.refl _ _) k _ h⟩
                    simp only [execOp, evalS, e1]
                    go_simp
                  obtain _ | i := i
                  · obtain rfl := Option.some.inj hi'
                    have e1 : st 112 = .pointer (some ⟨sb, so + s * 3 + 1, none⟩) := hA 10 (ha { on := 10, ground := .data } (by simp) rfl) h99
                    refine opStep_value (v := .slice (V s).ca (V s).nc (V s).ccap) (w' := wz) ?_ ⟨hG, rfl, fun k _ _ _ h => keep 11 wz (by decide) (Below.refl _ _) k _ h⟩
                    simp only [execOp, evalS, e1]
                    go_simp
                  obtain _ | i := i
                  · obtain rfl := Option.some.inj hi'
                    have e1 : st 107 = .slice (V s).ta (V s).nt (V s).tcap := hA 5 (ha { on := 5, ground := .data } (by simp) rfl) h99
                    have e2 : st 113 = .slice (V s).ca (V s).nc (V s).ccap := hA 11 (ha { on := 11, ground := .data } (by simp) rfl) h99
                    refine opStep_call' 26 #[.tmp 107, .tmp 113] #[22, 40] rfl Try.en26 #[.slice (V s).ta (V s).nt (V s).tcap, .slice (V s).ca (V s).nc (V s).ccap] (by simp [evalS, e1, e2]) ?_
                    refine (see_any (V s).ta (V s).ca (V s).nt (V s).tcap (V s).nc (V s).ccap (V s).T (V s).C wz (HSV.out.types.kept hG) (HSV.out.changes.kept hG) HSV.out.tcap).mono ?_
                    rintro e w' ⟨⟨u, rfl, -, hyes⟩, hb⟩
                    exact ⟨_, rfl, hG.trans (hb.mono hG.size), ⟨u, rfl, fun h0 => ⟨_, hyes h0⟩⟩, fun k _ _ _ h => keep 12 _ (by decide) hb k _ h⟩
                  obtain _ | i := i
                  · obtain rfl := Option.some.inj hi'
                    exact opStep_value (v := st 114) (w' := wz) rfl ⟨hG, hA 12 (ha { on := 12, ground := .data } (by simp) rfl) h99, fun k _ _ _ h => keep 13 wz (by decide) (Below.refl _ _) k _ h⟩
                  obtain _ | i := i
                  · obtain rfl := Option.some.inj hi'
                    obtain ⟨v, e1, hv⟩ : pTup (V s).nt (seeE (V s)) (seenS (V s)) (st 101) wz := hA 13 (ha { on := 13, ground := .data } (by simp) rfl) h99
                    refine opStep_value (v := v) (w' := wz) ?_ ⟨hG, hv, fun k _ _ _ h => keep 14 wz (by decide) (Below.refl _ _) k _ h⟩
                    simp only [execOp, evalS, e1]
                    go_simp
                  obtain _ | i := i
                  · obtain rfl := Option.some.inj hi'
                    obtain ⟨v, e1, hv⟩ : pTup (V s).nt (seeE (V s)) (seenS (V s)) (st 101) wz := hA 13 (ha { on := 13, ground := .data } (by simp) rfl) h99
                    refine opStep_value (v := faultA (seeE (V s))) (w' := wz) ?_ ⟨hG, rfl, fun k _ _ _ h => keep 15 wz (by decide) (Below.refl _ _) k _ h⟩
                    simp only [execOp, evalS, e1]
                    go_simp
                  obtain _ | i := i
                  · obtain rfl := Option.some.inj hi'
                    have hb := below1 wz (Obj.cells #[.int .i64 0, .int .i64 0] 30)
                    have h18 : L' 18 = false := by
                      cases h : L' 18 with
                      | false => rfl
                      | true =>
                        have := hcl 18 _ h rfl { on := 16, ground := .data } (by simp) rfl
                        have hl16 : L' 16 = false := hl
                        rw [this] at hl16; cases hl16
                    refine opStep_value (v := .pointer (some ⟨wz.heap.size, 0, none⟩)) (w' := wz.alloc (.cells #[.int .i64 0, .int .i64 0] 30)) ?_ ⟨hG.trans (hb.mono hG.size), ⟨wz.heap.size, rfl, hG.size, ?_⟩, fun k _ _ _ h => keep 16 _ (by decide) hb k _ h⟩
                    · go_simp
                    · have : also L' 16 18 = false := h18
                      rw [this]; exact heap_alloc_new _ _
                  obtain _ | i := i
                  · obtain rfl := Option.some.inj hi'
                    exact opStep_value (v := st 115) (w' := wz) rfl ⟨hG, hA 14 (ha { on := 14, ground := .data } (by simp) rfl) h99, fun k _ _ _ h => keep 17 wz (by decide) (Below.refl _ _) k _ h⟩
                  obtain _ | i := i
                  · obtain rfl := Option.some.inj hi'
                    have hl18 : L' 18 = false := hl
                    have e1 : st 116 = faultA (seeE (V s)) := hA 15 (ha { on := 15, ground := .data } (by simp) rfl) h99
                    obtain ⟨y, e2, hy, hbz⟩ : pBox O.heap.size (L' 18) (seeE (V s)) (st 11) wz := hA 16 (ha { on := 16, ground := .data } (by simp) rfl) h99
                    rw [hl18] at hbz
                    obtain ⟨t0, t1, z0, z1⟩ := box_cells hbz
                    refine opStep_skip (w' := (wz.setCell ⟨y, 0, none⟩ (.int .i64 (seeE (V s)).1)).setCell ⟨y, 1, none⟩ (.int .i64 (seeE (V s)).2)) ?_ ⟨(hG.setCell hy _).setCell hy _, trivial, fun k hk hLk hlv hAk => mA_store k hAk (fun v hv => hv.store hbz) ?_⟩
                    · unfold faultA at e1
                      simp only [execOp, evalS, e1, e2]
                      go_simp
                    · rintro rfl
                      show pBox O.heap.size (also L' 18 18) _ (st 11) _
                      rw [e2]; exact pBox.store hy hbz
                  · exfalso
                    have hlen : i + 1 + 1 + 1 + 1 + 1 + 1 + 1 + 1 + 1 + 1 + 1 + 1 + 1 + 1 + 1 + 1 + 1 + 1 + 1 < 19 := (List.getElem?_eq_some_iff.1 hi').1
                    omega
                · intro L' st wz hG hL hall hA
                  have h99 : L' 99 = false := by
                    cases h : L' 99 with
                    | false => rfl
                    | true => exact absurd (hL 99 h) (by decide)
                  obtain ⟨y, e11, hy, hbz⟩ : pBox O.heap.size (L' 18) (seeE (V s)) (st 11) wz := hA 16 (hall 16 (by decide)) h99
                  rw [show L' 18 = true from hall 18 (by decide)] at hbz
                  have hc := (box_cells hbz).1
                  rw [HOK.out s hs] at hc
                  obtain ⟨bq, fv, ov, hSz⟩ : ∃ b fv ov, Seens wz b (st 10) (V s).nt fv ov (seenS (V s)) := (hA 17 (hall 17 (by decide)) h99) (HOK.out s hs)
                  obtain ⟨ua, uc, e10, -⟩ := hSz.slice
                  rw [e10] at hSz
                  have HFI : Hid (∃ ua' uc' bf fv ov base, Value.slice ua (V s).nt uc = .slice ua' (V s).nt uc' ∧ Value.pointer (some ⟨y, 0, none⟩) = .pointer (some ⟨bf, 0, none⟩) ∧ wz.cell? ⟨bf, 0, none⟩ = some (.int .i64 0) ∧ Seens wz base (.slice ua' (V s).nt uc') (V s).nt fv ov (seenS (V s)) ∧ Below O.heap.size O wz) := ⟨ua, uc, y, fv, ov, bq, rfl, rfl, hc, hSz, hG⟩
                  simp only [putAll, Act.put, List.setIfInBounds_toArray, List.set_cons_succ, List.set_cons_zero]
                  rw [e11, e10]
                  clear hA hall hL h99 e11 e10 hbz hG hc hSz
                  go_wp2_with fail
                  go_meet
                  exact ⟨rfl, HFI.out⟩
              case rest =>
                obtain ⟨rfl, ua, uc, bf, fv, ov, base, rfl, rfl, z0, hSz, hwz⟩ := hcut
                obtain ⟨wz, hren⟩ : ∃ wz, wz = wc := ⟨_, rfl⟩
                subst hren
                have HCZ : Hid (Below wo.heap.size wo wz) := HCO.out.trans (hwz.mono HCO.out.size)
                have x0z := keptCell hwz x0o
                have y0z := keptCell hwz y0o
                have p1z := keptCell hwz p1
                have p2z := keptCell hwz p2
                have HSZ := Hid.intro hSz
                clear hwz hSz x0o y0o p0 p1 p2 s0 s1
                have hnt : (V s).nt ≤ 9223372036854775807 := by omega
                go_wp2_with fail
                go_loopw [12, 122] (fun tt j wr => ∃ m : Nat, m ≤ (V s).nt ∧ j = .int .i64 m ∧ tt = .bool (decide (jj < m)) ∧ Below wz.heap.size wz wr) (fun _ j _ => (V s).nt - (intOf j).toNat)
                case atStart => exact ⟨0, Nat.zero_le _, rfl, by simp, Below.refl _ _⟩
                case round =>
                  obtain ⟨m, hm, rfl, rfl, hw⟩ := hrel
                  by_cases hml : m < (V s).nt
                  · have hSr := HSZ.out.kept hw
                    obtain ⟨gs, cs, hv, -, -⟩ := hSr.ptr hml
                    cases hv
                    obtain ⟨q0, q1, q2, q3⟩ := hSr.cells hml
                    have hgd := hSr.good m hml
                    obtain ⟨t1, tc1, et1, -, hFAm⟩ := (hSr.fields m hml).fieldsAt hgd.2.2.1 hgd.2.2.2.1
                    obtain ⟨t2, tc2, et2, -, hKAm⟩ := (hSr.owns m hml).keysAt hgd.2.2.1 hgd.2.2.2.2
                    rw [et1] at q1
                    rw [et2] at q3
                    have hml' : (m : Int) < ((V s).nt : Int) := by omega
                    have hm0 : (0 : Int) ≤ (m : Int) := by omega
                    generalize hU : wr.alloc (Obj.cells #[.string (seenS (V s) m).name, .slice t1 (seenS (V s) m).nf tc1, .string (seenS (V s) m).own, .slice t2 (seenS (V s) m).nf tc2] 55) = U
                    have hBU : Below wr.heap.size wr U := by rw [← hU]; exact below1 _ _
                    have hbu : U.heap[wr.heap.size]? = some (.cells #[.string (seenS (V s) m).name, .slice t1 (seenS (V s) m).nf tc1, .string (seenS (V s) m).own, .slice t2 (seenS (V s) m).nf tc2] 55 (0, 0)) := by rw [← hU]; exact heap_alloc_new _ _
                    have v0 : U.cell? ⟨wr.heap.size, 0, none⟩ = some (.string (seenS (V s) m).name) := by simp [World.cell?, hbu]
                    have v1 : U.cell? ⟨wr.heap.size, 1, none⟩ = some (.slice t1 (seenS (V s) m).nf tc1) := by simp [World.cell?, hbu]
                    have v2 : U.cell? ⟨wr.heap.size, 2, none⟩ = some (.string (seenS (V s) m).own) := by simp [World.cell?, hbu]
                    have v3 : U.cell? ⟨wr.heap.size, 3, none⟩ = some (.slice t2 (seenS (V s) m).nf tc2) := by simp [World.cell?, hbu]
                    have hzU : Below wz.heap.size wz U := hw.trans (hBU.mono hw.size)
                    have x0u := keptCell hzU x0z
                    have y0u := keptCell hzU y0z
                    have p1u := keptCell hzU p1z
                    have p2u := keptCell hzU p2z
                    have HZU := Hid.intro hzU
                    have HFM := Hid.intro (hFAm.kept hBU)
                    have HKM := Hid.intro (hKAm.kept hBU)
                    clear hSr hgd hFAm hKAm et1 et2 hBU hbu hzU hw
                    by_cases hmj : m = jj
                    · subst hmj
                      have ho : ((seenS (V s) m).own.toList == (osN (nth L i) k).type.toList) = true := by rw [eqs_eq]; exact eqs_iff.2 hjo
                      have hn' : ((seenS (V s) m).name.toList == (nth L i).name.toList) = true := by rw [eqs_eq]; exact eqs_iff.2 hjn
                      have hcl := field_any t1 (seenS (V s) m).nf tc1 (seenS (V s) m).F (fsN (nth L i) k).name U HFM.out
                      rw [hfi] at hcl
                      have HQO := Hid.intro hqo
                      clear hjo hjn hqo hfi hjz
                      go_wp2_with fail
                      clear hU q0 q1 q2 q3
                      refine hcl.mono ?_
                      clear hcl
                      rintro e w6 ⟨rfl, hw6⟩
                      obtain ⟨kb, ko, rfl, kc, -⟩ := (HKM.out.kept hw6).2 q hqf
                      rw [HQO.out] at kc
                      have v3' := keptCell hw6 v3
                      have p2' := keptCell hw6 p2u
                      have hq0 : (0 : Int) ≤ (q : Int) := by omega
                      have hq1 : (q : Int) < ((seenS (V s) m).nf : Int) := by omega
                      have HW6 := Hid.intro (HZU.out.trans (hw6.mono HZU.out.size))
                      clear hw6
                      go_wp2_with fail
                      go_quiet (fail)
                      go_wp2_with fail
                      go_roundw
                      case rel => exact ⟨m + 1, by omega, by go_num, by simp, HW6.out.trans ((below_drewN w6 _).mono HW6.out.size)⟩
                      case measure => simp [intOf]; omega
                    · have hdec : decide (jj < m + 1) = decide (jj < m) := by
                        by_cases h : jj < m
                        · rw [decide_eq_true h, decide_eq_true (by omega)]
                        · rw [decide_eq_false h, decide_eq_false (by omega)]
                      have hnn : ((seenS (V s) m).name.toList == (nth L i).name.toList) = false := by rw [eqs_eq]; exact eqs_false.2 fun e => hmj (hjz m hml e)
                      cases ho : ((seenS (V s) m).own.toList == (osN (nth L i) k).type.toList) with
                      | true =>
                        go_wp2_with fail
                        clear hU q0 q1 q2 q3
                        go_roundw
                        case rel => exact ⟨m + 1, by omega, by go_num, by rw [hdec], HZU.out⟩
                        case measure => simp [intOf]; omega
                      | false =>
                        go_wp2_with fail
                        clear hU q0 q1 q2 q3
                        go_roundw
                        case rel => exact ⟨m + 1, by omega, by go_num, by rw [hdec], HZU.out⟩
                        case measure => simp [intOf]; omega
                  · have hjm : decide (jj < m) = true := decide_eq_true (by omega)
                    have HWl := Hid.intro hw
                    have hlow : Below wo.heap.size wo wz := HCZ.out
                    have HLo : Hid (Below wo.heap.size wo wr) := hlow.trans (HWl.out.mono hlow.size)
                    rw [hjm]
                    clear hw hlow
                    go_wp2_with fail
                    go_roundw
                    case rel => exact ⟨k + 1, by omega, by go_num, HLo.out⟩
                    case measure => simp [intOf]; omega
          · have HWk := Hid.intro hw
            clear hw
            have HWo : Hid (Below W.heap.size W wr) := HC.out.trans (HWk.out.mono HC.out.size)
            go_wp2_with fail
            go_roundw
            case rel => exact ⟨i + 1, by omega, by go_num, HWo.out⟩
            case measure => simp [intOf]; omega
    · have HW := Hid.intro hw
      clear hw
      go_wp2_with fail
      go_ret
      exact ⟨rfl, HBW.out.trans (HW.out.mono HBW.out.size)⟩
end Go.Proofs.Ytjjggefmmeminaa
