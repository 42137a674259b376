/-
  The contract of stitchlaw5.ServeFields: it answers true.
-/
import Derived.Test.YtjjggefmmeminabSvFieldsP
import Derived.Test.YtjjggefmmeminabSvAlive
namespace Go.Proofs.Ytjjggefmmeminab
open Go.RowKit Go.Sort

set_option maxRecDepth 100000 in
set_option maxHeartbeats 4000000 in
theorem serveFields_any (a : Option Addr) (n cap : Nat) (V : Nat → LServ) (q : LReq) (w : World) (hV : ServsAt w a n V) (hL : ∀ i, i < n → LightS (toS (V i))) (hq : ReqOk w q) (hqk : q.nk * 16 ≤ 140737488355328) :
    Calls Try.prog 7 #[.slice a n cap, reqV q] w fun e w' => e = .returned (.bool true) ∧ Below w.heap.size w w' := by
  have hfd := field0_run
  have hnk : q.nk ≤ 9223372036854775807 := hq.keys.1
  have hnf : q.nf ≤ 9223372036854775807 := hq.fields.1
  obtain ⟨fa, hfa⟩ : ∃ fa, fa = q.fa := ⟨_, rfl⟩
  have hfl := hq.fields
  rw [← hfa] at hfl
  have hcl0 := fun W (hB : Below w.heap.size w W) => answer_any a n cap (fun i => toS (V i)) q W (hV.kept hB).toS hL (hq.kept hB) hqk
  unfold reqV at hcl0
  rw [← hfa] at hcl0
  unfold reqV
  rw [← hfa]
  clear hfa
  generalize hW : w.alloc (Obj.cells #[.int .i64 q.svc, .string q.type, .slice q.ka q.nk q.kcap, .slice fa q.nf q.fcap] 42) = W
  have hB : Below w.heap.size w W := by rw [← hW]; exact below1 _ _
  have k0 : W.cell? ⟨w.heap.size, 0, none⟩ = some (.int .i64 q.svc) := by rw [← hW, World.cell?_alloc_at _ _ _ _ rfl]; rfl
  have k1 : W.cell? ⟨w.heap.size, 1, none⟩ = some (.string q.type) := by rw [← hW, World.cell?_alloc_at _ _ _ _ rfl]; rfl
  have k2 : W.cell? ⟨w.heap.size, 2, none⟩ = some (.slice q.ka q.nk q.kcap) := by rw [← hW, World.cell?_alloc_at _ _ _ _ rfl]; rfl
  have k3 : W.cell? ⟨w.heap.size, 3, none⟩ = some (.slice fa q.nf q.fcap) := by rw [← hW, World.cell?_alloc_at _ _ _ _ rfl]; rfl
  have HV := Hid.intro hV
  have HB := Hid.intro hB
  have HFL := Hid.intro hfl
  have HC0 := Hid.intro hcl0
  clear hV hB hfl hcl0 hL
  go_enter Try.func7, Try.ntmps7
  go_wp2_with fail
  clear hW
  refine (alive5_any W).mono ?_
  rintro e w1 ⟨rfl, hw1⟩
  have hB1 : Below w.heap.size w w1 := HB.out.trans (hw1.mono HB.out.size)
  have k0 := keptCell hw1 k0
  have k1 := keptCell hw1 k1
  have k2 := keptCell hw1 k2
  have k3 := keptCell hw1 k3
  have hcl := HC0.out w1 hB1
  have HB1 := Hid.intro hB1
  clear hw1 hB1 HC0 HB
  go_wp2_with fail
  refine hcl.mono ?_
  clear hcl
  rintro e w2 ⟨fv, vv, rfl, hR, hw2⟩
  obtain ⟨ra, rc, va, vc, rfl, rfl, -, -⟩ := hR.slices
  by_cases hwr : wrongQ n (fun i => toS (V i)) q = 0
  case neg =>
    have hb : (wrongQ n (fun i => toS (V i)) q != 0) = true := by simpa using hwr
    have HB2 : Hid (Below w.heap.size w w2) := HB1.out.trans (hw2.mono HB1.out.size)
    clear hR hw2 hwr
    generalize (if wrongQ n (fun i => toS (V i)) q = 0 then q.nk else 0) = N
    go_wp2_with fail
    go_ret
    exact ⟨rfl, HB2.out.trans ((below1 _ _).mono HB2.out.size)⟩
  have HWR := Hid.intro hwr
  rw [hwr, if_pos rfl] at hR
  rw [hwr, if_pos rfl]
  generalize hY : w2.alloc (Obj.cells #[.slice ra q.nk rc, .slice va q.nk vc] 46) = Y
  have hBY : Below w2.heap.size w2 Y := by rw [← hY]; exact below1 _ _
  have d0 : Y.cell? ⟨w2.heap.size, 0, none⟩ = some (.slice ra q.nk rc) := by rw [← hY, World.cell?_alloc_at _ _ _ _ rfl]; rfl
  have d1 : Y.cell? ⟨w2.heap.size, 1, none⟩ = some (.slice va q.nk vc) := by rw [← hY, World.cell?_alloc_at _ _ _ _ rfl]; rfl
  have hB12 := hw2.trans (hBY.mono hw2.size)
  have HBY : Hid (Below w.heap.size w Y) := HB1.out.trans (hB12.mono HB1.out.size)
  have HRY := Hid.intro (hR.kept hBY hw2.size)
  have hcl := mwrong_any a n cap V Y (HV.out.kept HBY.out)
  have k2 := keptCell hB12 k2
  have k3 := keptCell hB12 k3
  have HZ : Hid (w1.heap.size ≤ Y.heap.size) := hB12.size
  clear hR hw2 hBY hB12 hwr k0 k1
  go_wp2_with fail
  clear hY
  refine hcl.mono ?_
  clear hcl
  rintro e w3 ⟨rfl, hw3⟩
  have HB3 : Hid (Below w.heap.size w w3) := HBY.out.trans (hw3.mono HBY.out.size)
  by_cases hF : (wrongF n V).1 = 0
  case neg =>
    have hb : ((wrongF n V).1 != 0) = true := by simpa using hF
    clear hw3 hF
    generalize wrongF n V = r at *
    unfold faultV
    go_wp2_with fail
    go_ret
    exact ⟨rfl, HB3.out⟩
  have HRF := Hid.intro (fun key => reply_fields HWR.out hF key)
  have e0 := keptCell hw3 d0
  have e1 := keptCell hw3 d1
  have m2 := keptCell hw3 k2
  have m3 := keptCell hw3 k3
  have HR3 := Hid.intro (HRY.out.kept hw3 HZ.out)
  have HZ3 : Hid (w1.heap.size ≤ w3.heap.size) := Nat.le_trans HZ.out hw3.size
  have HFL3 := Hid.intro (HFL.out.kept HB3.out)
  unfold faultV
  rw [hF]
  clear hw3 d0 d1 k2 k3 HRY HBY hF HZ HFL
  generalize (wrongF n V).2 = r2
  go_wp2_with fail
  go_loopw [45] (fun i wr => ∃ k : Nat, k ≤ q.nk ∧ i = .int .i64 k ∧ Below w3.heap.size w3 wr) (fun i _ => q.nk - (intOf i).toNat)
  case atStart => exact ⟨0, Nat.zero_le _, rfl, Below.refl _ _⟩
  case round =>
    obtain ⟨k, hk, rfl, hw⟩ := hrel
    by_cases hlt : k < q.nk
    · obtain ⟨gf, gv, sa, sc, U, rfl, rfl, f0, s0, hsc, hU, hS⟩ := (HR3.out.kept hw HZ3.out).at hlt
      have hlt' : (k : Int) < (q.nk : Int) := by omega
      have hk0 : (0 : Int) ≤ (k : Int) := by omega
      have c0 := keptCell hw e0
      have c1 := keptCell hw e1
      have n3 := keptCell hw m3
      obtain ⟨h1, h2⟩ := HRF.out (q.K k)
      have HW := Hid.intro hw
      cases hfo : foundI (toS (V q.svc.toNat)) q.type (q.K k) with
      | false =>
        rw [hfo] at f0
        rw [h1 hfo] at s0
        simp only [List.length_nil] at s0
        clear hU hS h1 h2 hfo hw hsc
        go_wp2_with fail
        go_roundw
        case rel => exact ⟨k + 1, by omega, by go_num, HW.out⟩
        case measure => simp [intOf]; omega
      | true =>
        obtain ⟨h3, h4⟩ := h2 hfo
        rw [hfo] at f0
        rw [h3] at s0 hU hS
        have HU := Hid.intro hU
        have HNF : Hid (∀ j, j < q.nf → (U j).field = q.F j) := fun j hj => (hS j hj).1.trans (h4 j hj)
        have HFLk := Hid.intro (HFL3.out.kept hw)
        clear hU hS h1 h2 h3 h4 hfo hw hsc
        go_wp2_with fail
        go_quiet (fail)
        go_wp2_with fail
        obtain ⟨Q, hQ⟩ : ∃ Q, Q = wr.drewN nq := ⟨_, rfl⟩
        have hBQ : Below wr.heap.size wr Q := by rw [hQ]; exact below_drewN _ _
        rw [← hQ]
        have HWQ : Hid (Below w3.heap.size w3 Q) := HW.out.trans (hBQ.mono HW.out.size)
        have c1 := keptCell hBQ c1
        have s0 := keptCell hBQ s0
        have HUQ := Hid.intro (HU.out.kept hBQ)
        have HFLQ := Hid.intro (HFLk.out.kept hBQ)
        clear hBQ hQ
        go_loopw [74] (fun i wr => ∃ j : Nat, j ≤ q.nf ∧ i = .int .i64 j ∧ Below Q.heap.size Q wr) (fun i _ => q.nf - (intOf i).toNat)
        case atStart => exact ⟨0, Nat.zero_le _, rfl, Below.refl _ _⟩
        case round =>
          obtain ⟨j, hj, rfl, hw⟩ := hrel
          by_cases hltj : j < q.nf
          · obtain ⟨b1, o1, hsa, u0, -⟩ := (HUQ.out.kept hw).2 j hltj
            subst hsa
            obtain ⟨b2, o2, hfa2, g0, -⟩ := (HFLQ.out.kept hw).2 j hltj
            subst hfa2
            rw [HNF.out j hltj] at u0
            have hltj' : (j : Int) < (q.nf : Int) := by omega
            have hj0 : (0 : Int) ≤ (j : Int) := by omega
            have c2 := keptCell hw c1
            have s2 := keptCell hw s0
            have HW2 := Hid.intro hw
            clear hw
            go_wp2_with fail
            go_roundw
            case rel => exact ⟨j + 1, by omega, by go_num, HW2.out⟩
            case measure => simp [intOf]; omega
          · have HW2 := Hid.intro hw
            clear hw
            go_wp2_with fail
            go_roundw
            case rel => exact ⟨k + 1, by omega, by go_num, HWQ.out.trans (HW2.out.mono HWQ.out.size)⟩
            case measure => simp [intOf]; omega
    · have HW := Hid.intro hw
      clear hw
      go_wp2_with fail
      go_ret
      exact ⟨rfl, HB3.out.trans (HW.out.mono HB3.out.size)⟩
end Go.Proofs.Ytjjggefmmeminab
