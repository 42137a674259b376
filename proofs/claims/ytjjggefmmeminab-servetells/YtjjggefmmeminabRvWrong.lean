/-
  The contract of stitchref4.WrongRequest: what is wrong with a request.
-/
import Derived.Test.YtjjggefmmeminabSvPlain
import Derived.Test.YtjjggefmmeminabRefFind
import Derived.BigQuiet
import Derived.WalkSpells
import Derived.Deep.RegionLaw
import Derived.Deep.RegionWith
namespace Go.Proofs.Ytjjggefmmeminab
open Go.RowKit Go.Sort

theorem stood_hit {K : Nat → ByteArray} {i j : Nat} (h : j < i) (e : K j = K i) : stood K i = true := stood_true.2 ⟨j, h, e⟩
theorem has_idx (nf : Nat) (G : Nat → LField) (f : ByteArray) : (decide (0 ≤ fieldIdx nf G f) = true ↔ ¬ fieldIdx nf G f < 0) := by
  rw [decide_eq_true_iff]; omega

set_option maxRecDepth 100000 in
set_option maxHeartbeats 4000000 in
theorem wrongRequest_any (a : Option Addr) (n cap : Nat) (V : Nat → SServ) (q : LReq) (w : World) (hV : SServsAt w a n V) (hq : ReqOk w q) :
    Calls Try.prog 21 #[.slice a n cap, reqV q] w fun e w' => e = .returned (.int .i64 (wrongQ n V q)) ∧ Below w.heap.size w w' := by
  have hn : n ≤ 9223372036854775807 := hV.1
  have hnk : q.nk ≤ 9223372036854775807 := hq.keys.1
  have hnf : q.nf ≤ 9223372036854775807 := hq.fields.1
  have hkc : (q.nk : Int) ≤ (q.kcap : Int) := by have := hq.kcap; omega
  have hfc : (q.nf : Int) ≤ (q.fcap : Int) := by have := hq.fcap; omega
  obtain ⟨ka, hka⟩ : ∃ ka, ka = q.ka := ⟨_, rfl⟩
  obtain ⟨fa, hfa⟩ : ∃ fa, fa = q.fa := ⟨_, rfl⟩
  have hks := hq.keys
  have hfs := hq.fields
  rw [← hka] at hks
  rw [← hfa] at hfs
  unfold reqV
  rw [← hka, ← hfa]
  clear hka hfa
  generalize hW : w.alloc (Obj.cells #[.int .i64 q.svc, .string q.type, .slice ka q.nk q.kcap, .slice fa q.nf q.fcap] 42) = W
  have hB : Below w.heap.size w W := by rw [← hW]; exact below1 _ _
  have k0 : W.cell? ⟨w.heap.size, 0, none⟩ = some (.int .i64 q.svc) := by rw [← hW, World.cell?_alloc_at _ _ _ _ rfl]; rfl
  have k1 : W.cell? ⟨w.heap.size, 1, none⟩ = some (.string q.type) := by rw [← hW, World.cell?_alloc_at _ _ _ _ rfl]; rfl
  have k2 : W.cell? ⟨w.heap.size, 2, none⟩ = some (.slice ka q.nk q.kcap) := by rw [← hW, World.cell?_alloc_at _ _ _ _ rfl]; rfl
  have k3 : W.cell? ⟨w.heap.size, 3, none⟩ = some (.slice fa q.nf q.fcap) := by rw [← hW, World.cell?_alloc_at _ _ _ _ rfl]; rfl
  have HV := Hid.intro (hV.kept hB)
  have HKS := Hid.intro (hks.kept hB)
  have HFS := Hid.intro (hfs.kept hB)
  have HB := Hid.intro hB
  clear hV hq hB hks hfs
  by_cases h1 : q.svc < 0
  · have hfin : Hid (wrongQ n V q = 5) := wrongQ_none (.inl h1)
    go_enter Try.func21, Try.ntmps21
    go_wp2_with fail
    go_ret
    exact ⟨by rw [hfin.out]; rfl, HB.out⟩
  by_cases h2 : (n : Int) ≤ q.svc
  · have hfin : Hid (wrongQ n V q = 5) := wrongQ_none (.inr h2)
    go_enter Try.func21, Try.ntmps21
    go_wp2_with fail
    go_ret
    exact ⟨by rw [hfin.out]; rfl, HB.out⟩
  obtain ⟨c, hc⟩ : ∃ c : Nat, q.svc = (c : Int) := ⟨q.svc.toNat, by omega⟩
  have hcn : c < n := by omega
  rw [hc] at k0 h1 h2
  obtain ⟨b, o, rfl, hs⟩ := HV.out.2 c hcn
  have c0 := hs.c0
  have HT := Hid.intro hs.types
  have hc' : (c : Int) < (n : Int) := by omega
  have hc0 : (0 : Int) ≤ (c : Int) := by omega
  have HC := Hid.intro hc
  have cT : ∀ d os, Calls Try.prog 45 #[.slice (V c).ta (V c).nt (V c).tcap, .string q.type] (grow (redrawn W d) os) fun e w'' => e = .returned (typePtr (V c).ta (V c).nt (V c).T q.type) ∧ ∃ p : Regrown, w'' = grow (redrawn W p.d) p.os := fun d os => Calls.regrown_of (refType_any _ _ _ _ _ _ (HT.out.kept (below_regrown W d os)))
  have r0 := cell_regrown k0
  have r1 := cell_regrown k1
  have r2 := cell_regrown c0
  clear hs hc HV
  go_enter Try.func21, Try.ntmps21
  go_wp2_with fail
  clear hW
  refine wp_region_quiet_below (by kernel_rfl) (by kernel_rfl) ?_
  repeat (go_big_quiet_step (first | exact cT _ _))
  refine wpQuiet_nil ?_
  intro _ hw'
  obtain ⟨⟨dq, osq⟩, hw''⟩ := hw'
  subst hw''
  have hbq := below_regrown W dq osq
  have HB1 : Hid (Below w.heap.size w (grow (redrawn W dq) osq)) := HB.out.trans (hbq.mono HB.out.size)
  have k2 := keptCell hbq k2
  have k3 := keptCell hbq k3
  have HT1 := Hid.intro (HT.out.kept hbq)
  have HKS1 := Hid.intro (HKS.out.kept hbq)
  have HFS1 := Hid.intro (HFS.out.kept hbq)
  generalize grow (redrawn W dq) osq = w1 at *
  clear hbq cT r0 r1 r2 c0 k0 k1 HT HKS HFS HB
  rcases find_cases (V c).nt (V c).T q.type with hf | ⟨t, ht, hf⟩
  · have hfin : Hid (wrongQ n V q = 1) := wrongQ_kind HC.out hcn hf
    rw [typePtr_none hf]
    go_wp2_with fail
    go_ret
    exact ⟨by rw [hfin.out]; rfl, HB1.out⟩
  obtain ⟨b1, o1, hta, ty⟩ := HT1.out.2 t ht
  have t1 := ty.2.1
  have HTY := Hid.intro ty.2.2.2.2
  rw [hta, typePtr_some hf]
  have HFD := Hid.intro hf
  clear hf hta ty HT1
  go_wp2_with fail
  go_loopw [38] (fun x wr => ∃ i : Nat, i ≤ q.nf ∧ x = .int .i64 i ∧ Hid (∀ j, j < i → fieldE ((V c).T t).nf ((V c).T t).F q.F j = 0) ∧ Below w1.heap.size w1 wr) (fun x _ => q.nf - (intOf x).toNat)
  case atStart => exact ⟨0, Nat.zero_le _, rfl, (fun j hj => absurd hj (Nat.not_lt_zero _)), Below.refl _ _⟩
  case round =>
    obtain ⟨i, hi, rfl, hb, hw⟩ := hrel
    by_cases hlt : i < q.nf
    · obtain ⟨b2, o2, hfa, f0, -⟩ := (HFS1.out.kept hw).2 i hlt
      subst hfa
      have hlt' : (i : Int) < (q.nf : Int) := by omega
      have hi0 : (0 : Int) ≤ (i : Int) := by omega
      have hic : (i : Int) ≤ (q.fcap : Int) := by omega
      have y1 := keptCell hw t1
      have z3 := keptCell hw k3
      have hcl := refHas_any ((V c).T t).fa ((V c).T t).nf ((V c).T t).fcap ((V c).T t).F (q.F i) wr (HTY.out.kept hw)
      have HW := Hid.intro hw
      clear hw
      go_wp2_with fail
      refine hcl.mono ?_
      clear hcl
      rintro e w2 ⟨rfl, hw2⟩
      have HW2 : Hid (Below w1.heap.size w1 w2) := HW.out.trans (hw2.mono HW.out.size)
      have HB2 : Hid (Below w.heap.size w w2) := HB1.out.trans (HW2.out.mono HB1.out.size)
      have z3 := keptCell hw2 z3
      clear hw2 y1 f0
      by_cases hx : fieldIdx ((V c).T t).nf ((V c).T t).F (q.F i) < 0
      · have hE : fieldE ((V c).T t).nf ((V c).T t).F q.F i = 7 := by unfold fieldE; rw [if_pos hx]
        have hS : fieldsE ((V c).T t).nf ((V c).T t).F q.nf q.F = 7 := by unfold fieldsE; rw [fault_hit hlt (by rw [hE]; decide) hb, hE]
        have hfin : Hid (wrongQ n V q = 7) := by unfold Hid; rw [wrongQ_fields HC.out hcn HFD.out (by rw [hS]; decide), hS]
        have hdb : decide (0 ≤ fieldIdx ((V c).T t).nf ((V c).T t).F (q.F i)) = false := decide_eq_false (by omega)
        rw [hdb]
        clear hE hS hx hdb
        go_wp2_with fail
        go_ret
        exact ⟨by rw [hfin.out]; rfl, HB2.out⟩
      · have hdb : decide (0 ≤ fieldIdx ((V c).T t).nf ((V c).T t).F (q.F i)) = true := decide_eq_true (by omega)
        rw [hdb]
        have HX := Hid.intro hx
        clear hx hdb
        go_wp2_with fail
        go_loopw [55] (fun x wr => ∃ m : Nat, m ≤ i ∧ x = .int .i64 m ∧ Hid (∀ j, j < m → q.F j ≠ q.F i) ∧ Below w2.heap.size w2 wr) (fun x _ => i - (intOf x).toNat)
        case atStart => exact ⟨0, Nat.zero_le _, rfl, (fun j hj => absurd hj (Nat.not_lt_zero _)), Below.refl _ _⟩
        case round =>
          obtain ⟨m, hm, rfl, hbm, hw⟩ := hrel
          have HW3 : Hid (Below w1.heap.size w1 wr) := HW2.out.trans (hw.mono HW2.out.size)
          have HW4 := Hid.intro hw
          clear hw
          by_cases hltm : m < i
          · obtain ⟨b3, o3, hfa3, g0, -⟩ := (HFS1.out.kept HW3.out).2 m (by omega)
            cases hfa3
            have hltm' : (m : Int) < (i : Int) := by omega
            have hm0 : (0 : Int) ≤ (m : Int) := by omega
            cases he : ((q.F i).toList == (q.F m).toList)
            · have hne : q.F m ≠ q.F i := fun e => by rw [e] at he; simp at he
              have hbm2 : Hid (∀ j, j < m + 1 → q.F j ≠ q.F i) := fun j hj => by
                rcases Nat.lt_succ_iff_lt_or_eq.1 hj with h | h
                · exact hbm j h
                · rw [h]; exact hne
              clear hne
              go_wp2_with fail
              go_roundw
              case rel => exact ⟨m + 1, by omega, by go_num, hbm2, HW4.out⟩
              case measure => simp [intOf]; omega
            · have heq : q.F m = q.F i := (toList_inj.1 (by simpa using he)).symm
              have hE : fieldE ((V c).T t).nf ((V c).T t).F q.F i = 6 := by unfold fieldE; rw [if_neg (Int.not_lt.2 HX.out), stood_hit hltm heq]; rfl
              have hS : fieldsE ((V c).T t).nf ((V c).T t).F q.nf q.F = 6 := by unfold fieldsE; rw [fault_hit hlt (by rw [hE]; decide) hb, hE]
              have hfin : Hid (wrongQ n V q = 6) := by unfold Hid; rw [wrongQ_fields HC.out hcn HFD.out (by rw [hS]; decide), hS]
              have HBE : Hid (Below w.heap.size w wr) := HB1.out.trans (HW3.out.mono HB1.out.size)
              clear heq hE hS
              go_wp2_with fail
              go_ret
              exact ⟨by rw [hfin.out]; rfl, HBE.out⟩
          · have hE : fieldE ((V c).T t).nf ((V c).T t).F q.F i = 0 := by
              unfold fieldE
              rw [if_neg (Int.not_lt.2 HX.out), stood_false.2 (fun j hj => hbm.out j (by omega))]; rfl
            have hb2 : Hid (∀ j, j < i + 1 → fieldE ((V c).T t).nf ((V c).T t).F q.F j = 0) := fun j hj => by
              rcases Nat.lt_succ_iff_lt_or_eq.1 hj with h | h
              · exact hb j h
              · rw [h]; exact hE
            clear hE
            go_wp2_with fail
            go_roundw
            case rel => exact ⟨i + 1, by omega, by go_num, hb2, HW3.out⟩
            case measure => simp [intOf]; omega
    · have hS : fieldsE ((V c).T t).nf ((V c).T t).F q.nf q.F = 0 := by unfold fieldsE; rw [fault_none (fun j hj => hb.out j (by omega))]
      have HK := Hid.intro (wrongQ_keys HC.out hcn HFD.out hS)
      have HW := Hid.intro hw
      have z2 := keptCell hw k2
      have HKS2 := Hid.intro (HKS1.out.kept hw)
      obtain ⟨wo, hren⟩ : ∃ wo, wo = wr := ⟨_, rfl⟩
      rw [← hren] at HW z2 HKS2
      have HB3 : Hid (Below w.heap.size w wo) := HB1.out.trans (HW.out.mono HB1.out.size)
      rw [← hren]
      clear hw hS hren
      go_wp2_with fail
      go_loopw [67] (fun x wr => ∃ i : Nat, i ≤ q.nk ∧ x = .int .i64 i ∧ Hid (∀ j, j < i → stood q.K j = false) ∧ Below wo.heap.size wo wr) (fun x _ => q.nk - (intOf x).toNat)
      case atStart => exact ⟨0, Nat.zero_le _, rfl, (fun j hj => absurd hj (Nat.not_lt_zero _)), Below.refl _ _⟩
      case round =>
        obtain ⟨i, hi, rfl, hb, hw⟩ := hrel
        by_cases hlt : i < q.nk
        · obtain ⟨b2, o2, hka, f0, -⟩ := (HKS2.out.kept hw).2 i hlt
          subst hka
          have hlt' : (i : Int) < (q.nk : Int) := by omega
          have hi0 : (0 : Int) ≤ (i : Int) := by omega
          have hic : (i : Int) ≤ (q.kcap : Int) := by omega
          have y2 := keptCell hw z2
          have HW5 := Hid.intro hw
          obtain ⟨w5, hren⟩ : ∃ w5, w5 = wr := ⟨_, rfl⟩
          rw [← hren] at HW5 y2 f0
          rw [← hren]
          clear hw hren
          go_wp2_with fail
          go_loopw [77] (fun x wr => ∃ m : Nat, m ≤ i ∧ x = .int .i64 m ∧ Hid (∀ j, j < m → q.K j ≠ q.K i) ∧ Below w5.heap.size w5 wr) (fun x _ => i - (intOf x).toNat)
          case atStart => exact ⟨0, Nat.zero_le _, rfl, (fun j hj => absurd hj (Nat.not_lt_zero _)), Below.refl _ _⟩
          case round =>
            obtain ⟨m, hm, rfl, hbm, hw⟩ := hrel
            have HW6 : Hid (Below wo.heap.size wo wr) := HW5.out.trans (hw.mono HW5.out.size)
            have HW7 := Hid.intro hw
            clear hw
            by_cases hltm : m < i
            · obtain ⟨b3, o3, hka3, g0, -⟩ := (HKS2.out.kept HW6.out).2 m (by omega)
              cases hka3
              have hltm' : (m : Int) < (i : Int) := by omega
              have hm0 : (0 : Int) ≤ (m : Int) := by omega
              cases he : ((q.K i).toList == (q.K m).toList)
              · have hne : q.K m ≠ q.K i := fun e => by rw [e] at he; simp at he
                have hbm2 : Hid (∀ j, j < m + 1 → q.K j ≠ q.K i) := fun j hj => by
                  rcases Nat.lt_succ_iff_lt_or_eq.1 hj with h | h
                  · exact hbm j h
                  · rw [h]; exact hne
                clear hne
                go_wp2_with fail
                go_roundw
                case rel => exact ⟨m + 1, by omega, by go_num, hbm2, HW7.out⟩
                case measure => simp [intOf]; omega
              · have heq : q.K m = q.K i := (toList_inj.1 (by simpa using he)).symm
                have hT : twice q.nk q.K = true := twice_true.2 ⟨i, hlt, stood_hit hltm heq⟩
                have hfin : Hid (wrongQ n V q = 6) := by unfold Hid; rw [HK.out, hT]; rfl
                have HBE : Hid (Below w.heap.size w wr) := HB3.out.trans (HW6.out.mono HB3.out.size)
                clear heq hT
                go_wp2_with fail
                go_ret
                exact ⟨by rw [hfin.out]; rfl, HBE.out⟩
            · have hb2 : Hid (∀ j, j < i + 1 → stood q.K j = false) := fun j hj => by
                rcases Nat.lt_succ_iff_lt_or_eq.1 hj with h | h
                · exact hb j h
                · rw [h]; exact stood_false.2 (fun j hj => hbm.out j (by omega))
              go_wp2_with fail
              go_roundw
              case rel => exact ⟨i + 1, by omega, by go_num, hb2, HW6.out⟩
              case measure => simp [intOf]; omega
        · have hT : twice q.nk q.K = false := twice_false.2 (fun j hj => hb.out j (by omega))
          have hfin : Hid (wrongQ n V q = 0) := by unfold Hid; rw [HK.out, hT]; rfl
          have HBE : Hid (Below w.heap.size w wr) := HB3.out.trans (hw.mono HB3.out.size)
          clear hT hw
          go_wp2_with fail
          go_ret
          exact ⟨by rw [hfin.out]; rfl, HBE.out⟩
end Go.Proofs.Ytjjggefmmeminab
