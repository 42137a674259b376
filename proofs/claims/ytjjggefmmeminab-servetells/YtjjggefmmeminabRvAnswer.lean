/-
  The contract of stitchref4.Answer: what the service has of the things that are asked for, or what is wrong with the request.
-/
import Derived.Test.YtjjggefmmeminabRvWrong
import Derived.Test.YtjjggefmmeminabRvAnsReg
namespace Go.Proofs.Ytjjggefmmeminab
open Go.RowKit Go.Sort

set_option maxRecDepth 100000 in
set_option maxHeartbeats 8000000 in
theorem refAnswer_any (a : Option Addr) (n cap : Nat) (V : Nat → SServ) (q : LReq) (w : World) (hV : SServsAt w a n V) (hL : ∀ i, i < n → LightS (V i)) (hq : ReqOk w q) (hqk : q.nk * 16 ≤ 140737488355328) :
    Calls Try.prog 19 #[.slice a n cap, reqV q] w fun e w' => ∃ fv vv, e = .returned (.tuple #[.agg #[fv, vv], .int .i64 (wrongQ n V q)]) ∧ Replies w' w.heap.size w.heap.size fv vv (if wrongQ n V q = 0 then q.nk else 0) (fun j => foundI (V q.svc.toNat) q.type (q.K j)) (fun j => valsL (thingOf (V q.svc.toNat) q.type (q.K j)) q.nf q.F) ∧ Below w.heap.size w w' := by
  obtain ⟨iB, bi, bz0, bz1, bz2⟩ := info_parts' Try.info4
  obtain ⟨iV, vi, vz0, vz1, vz2⟩ := info_parts' Try.info54
  obtain ⟨iL, li, lz0, lz1, lz2⟩ := info_parts' Try.info56
  have hn : n ≤ 9223372036854775807 := hV.1
  have hnf : q.nf ≤ 9223372036854775807 := hq.fields.1
  obtain ⟨ka, hka⟩ : ∃ ka, ka = q.ka := ⟨_, rfl⟩
  obtain ⟨fa, hfa⟩ : ∃ fa, fa = q.fa := ⟨_, rfl⟩
  have hks := hq.keys
  have hfs := hq.fields
  rw [← hka] at hks
  rw [← hfa] at hfs
  have hnk : q.nk ≤ 9223372036854775807 := hks.1
  have hcl0 := fun W (hB : Below w.heap.size w W) => wrongRequest_any a n cap V q W (hV.kept hB) (hq.kept hB)
  unfold reqV at hcl0
  rw [← hka, ← hfa] at hcl0
  unfold reqV
  rw [← hka, ← hfa]
  clear hka hfa
  generalize hW : (w.alloc (Obj.cells #[.int .i64 q.svc, .string q.type, .slice ka q.nk q.kcap, .slice fa q.nf q.fcap] 42)).alloc (Obj.cells #[.slice none 0 0, .slice none 0 0] 46) = W
  have hB : Below w.heap.size w W := by rw [← hW]; exact below2 _ _ _
  have hWs : W.heap.size = w.heap.size + 1 + 1 := by rw [← hW]; simp
  have k0 : W.cell? ⟨w.heap.size, 0, none⟩ = some (.int .i64 q.svc) := by rw [← hW, World.cell?_alloc_past _ _ _ (by simp), World.cell?_alloc_at _ _ _ _ rfl]; rfl
  have k1 : W.cell? ⟨w.heap.size, 1, none⟩ = some (.string q.type) := by rw [← hW, World.cell?_alloc_past _ _ _ (by simp), World.cell?_alloc_at _ _ _ _ rfl]; rfl
  have k2 : W.cell? ⟨w.heap.size, 2, none⟩ = some (.slice ka q.nk q.kcap) := by rw [← hW, World.cell?_alloc_past _ _ _ (by simp), World.cell?_alloc_at _ _ _ _ rfl]; rfl
  have k3 : W.cell? ⟨w.heap.size, 3, none⟩ = some (.slice fa q.nf q.fcap) := by rw [← hW, World.cell?_alloc_past _ _ _ (by simp), World.cell?_alloc_at _ _ _ _ rfl]; rfl
  have hr : W.heap[w.heap.size + 1]? = some (.cells #[.slice none 0 0, .slice none 0 0] 46 (0, 0)) := by
    rw [← hW]
    exact (show w.heap.size + 1 = (w.alloc (Obj.cells #[.int .i64 q.svc, .string q.type, .slice ka q.nk q.kcap, .slice fa q.nf q.fcap] 42)).heap.size by simp) ▸ heap_alloc_new _ _
  have hcl := hcl0 W hB
  have HV0 := Hid.intro hV
  have HKS := Hid.intro hks
  have HFS := Hid.intro hfs
  have HB := Hid.intro hB
  have HL := Hid.intro hL
  have HR := Hid.intro hr
  have HWs := Hid.intro hWs
  clear hcl0 hks hfs hV hq hB hL hr hWs
  go_enter Try.func19, Try.ntmps19
  go_wp2_with fail
  clear hW
  refine hcl.mono ?_
  clear hcl
  rintro e w1 ⟨rfl, hw1⟩
  have k0 := keptCell hw1 k0
  have k1 := keptCell hw1 k1
  have k2 := keptCell hw1 k2
  have k3 := keptCell hw1 k3
  have HR1 := Hid.intro ((hw1.block _ (lt_of_block HR.out)).trans HR.out)
  have HB1 : Hid (Below w.heap.size w w1) := HB.out.trans (hw1.mono HB.out.size)
  have hz2 : w.heap.size + 1 + 1 ≤ w1.heap.size := by have := hw1.size; have := HWs.out; omega
  clear hw1 HB HR HWs
  by_cases hwr : wrongQ n V q = 0
  case neg =>
    have hb : (wrongQ n V q != 0) = true := by simpa using hwr
    have HWR := Hid.intro hwr
    obtain ⟨d0, d1⟩ : w1.cell? ⟨w.heap.size + 1, 0, none⟩ = some (.slice none 0 0) ∧ w1.cell? ⟨w.heap.size + 1, 1, none⟩ = some (.slice none 0 0) := by simp [World.cell?, HR1.out]
    obtain ⟨z0, z1⟩ : w1.frozen? ⟨w.heap.size + 1, 0, none⟩ = false ∧ w1.frozen? ⟨w.heap.size + 1, 1, none⟩ = false := by simp [World.frozen?, HR1.out]
    clear hwr
    have HB3 : Hid (Below w.heap.size w ((w1.setCell ⟨w.heap.size + 1, 0, none⟩ (Value.slice none 0 0)).setCell ⟨w.heap.size + 1, 1, none⟩ (Value.slice none 0 0))) := HB1.out.trans ⟨rfl, rfl, rfl, by simp, fun k hk => (Below.heap_setCell _ _ _ _ (by show k ≠ w.heap.size + 1; omega)).trans (Below.heap_setCell _ _ _ _ (by show k ≠ w.heap.size + 1; omega))⟩
    go_wp2_with fail
    exact bodyPost_ret (v := .tuple #[.agg #[.slice none 0 0, .slice none 0 0], .int .i64 (wrongQ n V q)]) (by simp [results, Try.results19, go_sem, d0, d1]) rfl ⟨_, _, rfl, replies_nil _ _ _ _ _, HB3.out⟩
  obtain ⟨c, t, hc, hcn, -, -, hfe, -⟩ := wrongQ_zero hwr
  have HWR := Hid.intro hwr
  have HSV : Hid (q.svc.toNat = c) := by unfold Hid; omega
  rw [hwr]
  rw [hc] at k0
  have hc' : (c : Int) < (n : Int) := by omega
  have hc0 : (0 : Int) ≤ (c : Int) := by omega
  obtain ⟨b, o, ha, hs⟩ := HV0.out.2 c hcn
  subst ha
  have HSV0 := Hid.intro hs
  have HD : Hid (∀ i, i < q.nf → stood q.F i = false) := fun i hi => fieldE_zero (hfe i hi)
  have HLS := Hid.intro (HL.out c hcn)
  clear hs hc hwr hfe HL
  obtain ⟨w2, hren⟩ : ∃ w2, w2 = w1 := ⟨_, rfl⟩
  rw [← hren] at k0 k1 k2 k3 HR1 HB1 hz2
  rw [← hren]
  clear hren
  generalize hW3 : w2.alloc (Obj.cells #[.slice none 0 0, .slice none 0 0] 46) = W3
  have hB3 : Below w2.heap.size w2 W3 := by rw [← hW3]; exact below1 _ _
  have hb3 : W3.heap[w2.heap.size]? = some (.cells #[.slice none 0 0, .slice none 0 0] 46 (0, 0)) := by rw [← hW3]; exact heap_alloc_new _ _
  have j2 := keptCell hB3 k2
  have HB3 := Hid.intro hB3
  have Hb3 := Hid.intro hb3
  clear hB3 hb3
  go_wp2_with fail
  clear hW3 j2
  obtain ⟨br, hbr⟩ : ∃ br, br = w2.heap.size := ⟨_, rfl⟩
  rw [← hbr] at Hb3 HB3 hz2
  rw [← hbr]
  have HBR := Hid.intro hbr
  clear hbr
  go_loopw [26] (fun i wr => ∃ k : Nat, k ≤ q.nk ∧ i = .int .i64 k ∧ (∃ fv vv, wr.heap[br]? = some (.cells #[fv, vv] 46 (0, 0)) ∧ Row wr br 4 1 fv k (fun j => .bool (foundI (V c) q.type (q.K j))) ∧ ValsOf wr br w.heap.size vv k (fun j => valsL (thingOf (V c) q.type (q.K j)) q.nf q.F)) ∧ Below br w2 wr) (fun i _ => q.nk - (intOf i).toNat)
  case atStart => exact ⟨0, Nat.zero_le _, rfl, ⟨_, _, Hb3.out, World.ownsRow_nil _ _ _ _, valsOf_nil _ _ _ _⟩, HB3.out⟩
  case round =>
    obtain ⟨k, hk, rfl, ⟨fv, vv, hbx, hFd, hVl⟩, hw⟩ := hrel
    have hw' : Below w2.heap.size w2 wr := HBR.out ▸ hw
    have hwB : Below w.heap.size w wr := HB1.out.trans (hw'.mono HB1.out.size)
    by_cases hlt : k < q.nk
    · obtain ⟨b4, o4, hka, f0, hs⟩ := (HKS.out.kept hwB).2 k hlt
      subst hka
      have hlt' : (k : Int) < (q.nk : Int) := by omega
      have hk0 : (0 : Int) ≤ (k : Int) := by omega
      have hsr := HSV0.out.kept hwB
      have cT : ∀ d os, Calls Try.prog 40 #[.slice (V c).xa (V c).nx (V c).xcap, .string q.type, .string (q.K k)] (grow (redrawn wr d) os) fun e w'' => e = .returned (thingPtr (V c).xa (V c).nx (V c).X q.type (q.K k)) ∧ ∃ p : Regrown, w'' = grow (redrawn wr p.d) p.os := fun d os => Calls.regrown_of (refThing_any _ _ _ _ _ _ _ (hsr.things.kept (below_regrown wr d os)))
      have r0 := cell_regrown (keptCell hw' k0)
      have r1 := cell_regrown (keptCell hw' k1)
      have r2 := cell_regrown hsr.c2
      have HBX := Hid.intro hbx
      have HFD := Hid.intro hFd
      have HVL := Hid.intro hVl
      have HW := Hid.intro hw
      have HWB := Hid.intro hwB
      clear hbx hFd hVl hw hwB hs hsr
      go_wp2_with fail
      refine wp_region_quiet_below (by kernel_rfl) (by kernel_rfl) ?_
      repeat (go_big_quiet_step (first | exact cT _ _))
      refine wpQuiet_nil ?_
      intro _ hwq
      obtain ⟨⟨dq, osq⟩, hwq'⟩ := hwq
      subst hwq'
      have hbq := below_regrown wr dq osq
      have hzr : br ≤ wr.heap.size := by have := hw'.size; have := HBR.out; omega
      have HBX1 := Hid.intro ((hbq.block _ (lt_of_block HBX.out)).trans HBX.out)
      have HFD1 := Hid.intro (HFD.out.kept hbq)
      have HVL1 := Hid.intro (HVL.out.kept hbq (by omega))
      have HW1 : Hid (Below br w2 (grow (redrawn wr dq) osq)) := HW.out.trans (hbq.mono hzr)
      have HWB1 : Hid (Below w.heap.size w (grow (redrawn wr dq) osq)) := HWB.out.trans (hbq.mono HWB.out.size)
      have hzq : br ≤ (grow (redrawn wr dq) osq).heap.size := Nat.le_trans hzr hbq.size
      have q3 := keptCell (hw'.trans (hbq.mono hw'.size)) k3
      generalize grow (redrawn wr dq) osq = wq at *
      clear hbq cT r0 r1 r2 f0 hw' HBX HFD HVL HW HWB hzr
      rcases idx_cases (V c).nx (sameThing (V c).X q.type (q.K k)) with ⟨hi, -⟩ | ⟨tt, htt, hi, -⟩
      · obtain ⟨f1, f2⟩ := foundI_none (s := V c) (typ := q.type) (key := q.K k) (by rw [hi]; decide)
        rw [thingPtr_none (by rw [hi]; decide)]
        have HFDE : Hid (foundI (V c) q.type (q.K k) = false) := f1
        have HLE : Hid (valsL (thingOf (V c) q.type (q.K k)) q.nf q.F = []) := by unfold Hid; rw [f2]; exact valsL_noThing _ _
        clear f1 f2 hi
        go_wp2_with fail
        go_loopw [11, 43] (fun v i wr => v = .slice none 0 0 ∧ ∃ j : Nat, j ≤ q.nf ∧ i = .int .i64 j ∧ Below wq.heap.size wq wr) (fun _ i _ => q.nf - (intOf i).toNat)
        case atStart => exact ⟨rfl, 0, Nat.zero_le _, rfl, Below.refl _ _⟩
        case round =>
          obtain ⟨hv, j, hj, hij, hwj⟩ := hrel
          subst hv
          subst hij
          have HFE := Hid.intro (HFD1.out.kept hwj)
          have HVE := Hid.intro (HVL1.out.kept hwj (by omega))
          have HBE := Hid.intro ((hwj.block _ (lt_of_block HBX1.out)).trans HBX1.out)
          have HWE : Hid (Below br w2 wr) := HW1.out.trans (hwj.mono hzq)
          have HVR : Hid (∃ kv, ValRows wr br w.heap.size (.slice none 0 0) (valsL (thingOf (V c) q.type (q.K k)) q.nf q.F) kv) := by unfold Hid; rw [HLE.out]; exact ⟨fun _ => .slice none 0 0, valRows_nil _ _ _ _⟩
          by_cases hltj : j < q.nf
          · obtain ⟨b5, o5, hfa, g0, -⟩ := (HFS.out.kept (HWB1.out.trans (hwj.mono HWB1.out.size))).2 j hltj
            subst hfa
            have hltj' : (j : Int) < (q.nf : Int) := by omega
            have hj0 : (0 : Int) ≤ (j : Int) := by omega
            clear hwj
            go_upto_region 21 with fail
            obtain ⟨sv, hsv, hsr⟩ := HVE.out
            refine ans_region bi bz0 bz1 bz2 vi vz0 vz1 vz2 (k := k) (by kernel_rfl) (by omega) rfl rfl rfl HFE.out hsv HBE.out ?_
            intro s w' fa' fc' va' vc' hS hb' hF' hV'
            have HEND : Hid (w'.heap[br]? = some (.cells #[.slice fa' (k + 1) fc', .slice va' (k + 1) vc'] 46 (0, 0)) ∧ Row w' br 4 1 (.slice fa' (k + 1) fc') (k + 1) (fun j => .bool (foundI (V c) q.type (q.K j))) ∧ ValsOf w' br w.heap.size (.slice va' (k + 1) vc') (k + 1) (fun j => valsL (thingOf (V c) q.type (q.K j)) q.nf q.F) ∧ Below br w2 w') := by
              refine ⟨hb', hF'.congr fun j hj => ?_, ⟨_, hV', fun j hj => ?_⟩, HWE.out.trans hS.below⟩
              · have hj' : j < k ∨ j = k := by omega
                rcases hj' with h1 | h1
                · simp [h1]
                · simp [h1, HFDE.out]
              · by_cases h1 : j < k * 1
                · obtain ⟨kv', hk'⟩ := hsr j (by omega)
                  simp only [if_pos h1]
                  exact ⟨kv', hk'.steady (hS.lower (by omega))⟩
                · have h2 : j = k := by omega
                  subst h2
                  simp only [if_neg h1]
                  obtain ⟨kv', hk'⟩ := HVR.out
                  exact ⟨kv', hk'.steady (hS.lower (by omega))⟩
            clear hS hb' hF' hV'
            simp only [putAll, Act.put, List.setIfInBounds_toArray, List.set_cons_succ, List.set_cons_zero]
            generalize s 68 = t68
            generalize s 69 = t69
            generalize s 70 = t70
            generalize s 71 = t71
            generalize s 72 = t72
            generalize s 73 = t73
            generalize s 74 = t74
            generalize s 75 = t75
            generalize s 76 = t76
            generalize s 77 = t77
            generalize s 78 = t78
            generalize s 79 = t79
            generalize s 80 = t80
            go_wp2_with fail
            go_roundw
            case rel => exact ⟨k + 1, by omega, by go_num, ⟨_, _, HEND.out.1, HEND.out.2.1, HEND.out.2.2.1⟩, HEND.out.2.2.2⟩
            case measure => simp [intOf]; omega
          · clear hwj
            go_upto_region 21 with fail
            obtain ⟨sv, hsv, hsr⟩ := HVE.out
            refine ans_region bi bz0 bz1 bz2 vi vz0 vz1 vz2 (k := k) (by kernel_rfl) (by omega) rfl rfl rfl HFE.out hsv HBE.out ?_
            intro s w' fa' fc' va' vc' hS hb' hF' hV'
            have HEND : Hid (w'.heap[br]? = some (.cells #[.slice fa' (k + 1) fc', .slice va' (k + 1) vc'] 46 (0, 0)) ∧ Row w' br 4 1 (.slice fa' (k + 1) fc') (k + 1) (fun j => .bool (foundI (V c) q.type (q.K j))) ∧ ValsOf w' br w.heap.size (.slice va' (k + 1) vc') (k + 1) (fun j => valsL (thingOf (V c) q.type (q.K j)) q.nf q.F) ∧ Below br w2 w') := by
              refine ⟨hb', hF'.congr fun j hj => ?_, ⟨_, hV', fun j hj => ?_⟩, HWE.out.trans hS.below⟩
              · have hj' : j < k ∨ j = k := by omega
                rcases hj' with h1 | h1
                · simp [h1]
                · simp [h1, HFDE.out]
              · by_cases h1 : j < k * 1
                · obtain ⟨kv', hk'⟩ := hsr j (by omega)
                  simp only [if_pos h1]
                  exact ⟨kv', hk'.steady (hS.lower (by omega))⟩
                · have h2 : j = k := by omega
                  subst h2
                  simp only [if_neg h1]
                  obtain ⟨kv', hk'⟩ := HVR.out
                  exact ⟨kv', hk'.steady (hS.lower (by omega))⟩
            clear hS hb' hF' hV'
            simp only [putAll, Act.put, List.setIfInBounds_toArray, List.set_cons_succ, List.set_cons_zero]
            generalize s 68 = t68
            generalize s 69 = t69
            generalize s 70 = t70
            generalize s 71 = t71
            generalize s 72 = t72
            generalize s 73 = t73
            generalize s 74 = t74
            generalize s 75 = t75
            generalize s 76 = t76
            generalize s 77 = t77
            generalize s 78 = t78
            generalize s 79 = t79
            generalize s 80 = t80
            go_wp2_with fail
            go_roundw
            case rel => exact ⟨k + 1, by omega, by go_num, ⟨_, _, HEND.out.1, HEND.out.2.1, HEND.out.2.2.1⟩, HEND.out.2.2.2⟩
            case measure => simp [intOf]; omega
      · obtain ⟨f1, f2⟩ := foundI_some hi
        obtain ⟨bx, ox, hxa, -, -, x2, -⟩ := (HSV0.out.things.kept HWB1.out).2 tt htt
        obtain ⟨-, -, -, -, -, -, -, -, -, hX0⟩ := HSV0.out.things.2 tt htt
        rw [hxa, thingPtr_some hi]
        have HFDE : Hid (foundI (V c) q.type (q.K k) = true) := f1
        have HLE : Hid (thingOf (V c) q.type (q.K k) = (V c).X tt) := f2
        have HLX := Hid.intro (HLS.out tt htt)
        have HX0 := Hid.intro hX0
        have hnv : ((V c).X tt).nv ≤ 9223372036854775807 := hX0.1
        have hlx := (HLS.out tt htt).1
        obtain ⟨x, hx⟩ : ∃ x, x = (V c).X tt := ⟨_, rfl⟩
        rw [← hx] at HLE HLX HX0 x2 hnv hlx
        obtain ⟨va, hva⟩ : ∃ va, va = x.va := ⟨_, rfl⟩
        rw [← hva] at HX0 x2
        clear f1 f2 hi hxa hX0 hx hva
        go_wp2_with fail
        go_loopw [11, 43] (fun v i wr => ∃ j : Nat, j ≤ q.nf ∧ i = .int .i64 j ∧ (∃ kv, ValRows wr wq.heap.size w.heap.size v (valsL x j q.F) kv) ∧ Below wq.heap.size wq wr) (fun _ i _ => q.nf - (intOf i).toNat)
        case atStart => exact ⟨0, Nat.zero_le _, rfl, ⟨fun _ => .slice none 0 0, valRows_nil _ _ _ _⟩, Below.refl _ _⟩
        case round =>
          obtain ⟨j, hj, hij, ⟨kv, hR⟩, hwj⟩ := hrel
          subst hij
          by_cases hltj : j < q.nf
          · obtain ⟨b5, o5, hfa, g0, -⟩ := (HFS.out.kept (HWB1.out.trans (hwj.mono HWB1.out.size))).2 j hltj
            subst hfa
            have hltj' : (j : Int) < (q.nf : Int) := by omega
            have hj0 : (0 : Int) ≤ (j : Int) := by omega
            have y2 := keptCell hwj x2
            have HR5 := Hid.intro hR
            have HW5 := Hid.intro hwj
            clear hR hwj
            go_wp2_with fail
            go_loopw [11, 54] (fun v i wr => ∃ l : Nat, l ≤ x.nv ∧ i = .int .i64 l ∧ (∃ kv, ValRows wr wq.heap.size w.heap.size v (valsL x j q.F ++ valsTo x (q.F j) l) kv) ∧ Below wq.heap.size wq wr) (fun _ i _ => x.nv - (intOf i).toNat)
            case atStart => exact ⟨0, Nat.zero_le _, rfl, ⟨kv, by show ValRows _ _ _ _ (valsL x j q.F ++ []) kv; rw [List.append_nil]; exact HR5.out⟩, HW5.out⟩
            case round =>
              obtain ⟨l, hl, hil, ⟨kv2, hR⟩, hwl⟩ := hrel
              subst hil
              by_cases hltl : l < x.nv
              · obtain ⟨b6, o6, hv6, v0, v1, v2, hcap, s1, s2, hKs⟩ := (HX0.out.kept (HWB1.out.trans (hwl.mono HWB1.out.size))).2 l hltl
                subst hv6
                obtain ⟨-, -, -, -, -, -, hcap0, -, -, hKs0⟩ := HX0.out.2 l hltl
                have hltl' : (l : Int) < (x.nv : Int) := by omega
                have hl0 : (0 : Int) ≤ (l : Int) := by omega
                generalize hX1 : wr.alloc (Obj.cells #[.string (x.V l).field, .string (x.V l).text, .slice (x.V l).ka (x.V l).nk (x.V l).kcap] 56) = X1
                have hB1 : Below wr.heap.size wr X1 := by rw [← hX1]; exact below1 _ _
                have c0 : X1.cell? ⟨wr.heap.size, 0, none⟩ = some (.string (x.V l).field) := by rw [← hX1, World.cell?_alloc_at _ _ _ _ rfl]; rfl
                have c1 : X1.cell? ⟨wr.heap.size, 1, none⟩ = some (.string (x.V l).text) := by rw [← hX1, World.cell?_alloc_at _ _ _ _ rfl]; rfl
                have c2 : X1.cell? ⟨wr.heap.size, 2, none⟩ = some (.slice (x.V l).ka (x.V l).nk (x.V l).kcap) := by rw [← hX1, World.cell?_alloc_at _ _ _ _ rfl]; rfl
                have hzl : wq.heap.size ≤ wr.heap.size := hwl.size
                have hzw : w.heap.size ≤ wq.heap.size := HWB1.out.size
                have HR6 := Hid.intro (hR.kept hB1 (by omega))
                have HW6 : Hid (Below wq.heap.size wq X1) := hwl.trans (hB1.mono hzl)
                have hz1 : wq.heap.size ≤ X1.heap.size := Nat.le_trans hzl hB1.size
                have HSm := Hid.intro (And.intro s1 s2)
                have HKs := Hid.intro (And.intro hcap0 hKs0)
                clear hR hwl hB1 hKs hKs0 s1 s2 hcap hcap0
                cases he : ((x.V l).field.toList == (q.F j).toList)
                · have HV6 : Hid (valsTo x (q.F j) (l + 1) = valsTo x (q.F j) l) := valsTo_miss (by rw [← eqs_eq]; exact he)
                  go_wp2_with fail
                  clear hX1
                  go_roundw
                  case rel => exact ⟨l + 1, by omega, by go_num, ⟨kv2, by rw [HV6.out]; exact HR6.out⟩, HW6.out⟩
                  case measure => simp [intOf]; omega
                · have HV6 : Hid (valsTo x (q.F j) (l + 1) = valsTo x (q.F j) l ++ [x.V l]) := valsTo_hit (by rw [← eqs_eq]; exact he)
                  have hle := valsTo_le (x := x) HD.out hltj (j := l + 1) hltl
                  rw [HV6.out, ← List.append_assoc, List.length_append] at hle
                  have hap := Row.one #[.string (x.V l).field, .string (x.V l).text, .slice (x.V l).ka (x.V l).nk (x.V l).kcap] HR6.out.row hz1 54 iL _ 56 Try.underlying54 li lz0 lz1 lz2 rfl (by decide) (cellOf (x.V l) (.slice (x.V l).ka (x.V l).nk (x.V l).kcap)) (fun i hi => by
                    match i, hi with
                    | 0, _ => rfl
                    | 1, _ => rfl
                    | 2, _ => rfl) (fun i _ => cellOf_one rfl i) (by simp only [List.length_cons, List.length_nil] at hle; unfold maxLen; omega) (by simp only [List.length_cons, List.length_nil] at hle; omega) (m := X1.heap.size) rfl
                  clear hle
                  go_wp2_with (at_builtin; refine wpList_append_run _ rfl _ _ 54 rfl _ _ rfl rfl (fun v' w' => Row w' wq.heap.size 56 3 v' ((valsL x j q.F ++ valsTo x (q.F j) l).length + 1) _ ∧ World.grownBy _ w' u11.ownBlock) hap ?_)
                  intro v' w6 hrow hg
                  have HE : Hid (ValRows w6 wq.heap.size w.heap.size v' (valsL x j q.F ++ valsTo x (q.F j) l ++ [x.V l]) (fun i => if i = (valsL x j q.F ++ valsTo x (q.F j) l).length then .slice (x.V l).ka (x.V l).nk (x.V l).kcap else kv2 i) ∧ Below wq.heap.size wq w6) := by
                    rw [← List.length_append] at hrow
                    have hA := below1 X1 (Obj.cells #[.string (x.V l).field, .string (x.V l).text, .slice (x.V l).ka (x.V l).nk (x.V l).kcap] 56)
                    have hBB : Below w.heap.size w (X1.alloc (Obj.cells #[.string (x.V l).field, .string (x.V l).text, .slice (x.V l).ka (x.V l).nk (x.V l).kcap] 56)) := (HWB1.out.trans (HW6.out.mono hzw)).trans (hA.mono (Nat.le_trans hzw hz1))
                    refine ⟨(HR6.out.kept hA (by omega)).snoc hzw (by simp; omega) HSm.out (HKs.out.2.stays hBB HKs.out.1) hrow hg, ?_⟩
                    exact (HW6.out.trans (hA.mono hz1)).grown hg (by simp; omega) (fun k' hk' => (HR6.out.row.lt hk').1)
                  clear hrow hg hap hX1
                  go_wp2_with fail
                  go_roundw
                  case rel => exact ⟨l + 1, by omega, by go_num, ⟨_, by rw [HV6.out, ← List.append_assoc]; exact HE.out.1⟩, HE.out.2⟩
                  case measure => simp [intOf]; omega
              · have hln : l = x.nv := by omega
                subst hln
                have HR6 := Hid.intro hR
                have HW6 := Hid.intro hwl
                have HV6 : Hid (valsL x (j + 1) q.F = valsL x j q.F ++ valsTo x (q.F j) x.nv) := valsL_succ x j q.F
                clear hR hwl
                go_wp2_with fail
                go_roundw
                case rel => exact ⟨j + 1, by omega, by go_num, ⟨kv2, by rw [HV6.out]; exact HR6.out⟩, HW6.out⟩
                case measure => simp [intOf]; omega
          · have hjn : j = q.nf := by omega
            subst hjn
            obtain ⟨sa, sc, rfl, -⟩ := hR.row.slice
            have HFE := Hid.intro (HFD1.out.kept hwj)
            have HVE := Hid.intro (HVL1.out.kept hwj (by omega))
            have HBE := Hid.intro ((hwj.block _ (lt_of_block HBX1.out)).trans HBX1.out)
            have HWE : Hid (Below br w2 wr) := HW1.out.trans (hwj.mono hzq)
            have HVR : Hid (∃ kv, ValRows wr br w.heap.size (.slice sa (valsL x q.nf q.F).length sc) (valsL (thingOf (V c) q.type (q.K k)) q.nf q.F) kv) := by unfold Hid; rw [HLE.out]; exact ⟨kv, hR.lower hzq⟩
            clear hR hwj
            go_upto_region 21 with fail
            obtain ⟨sv, hsv, hsr⟩ := HVE.out
            refine ans_region bi bz0 bz1 bz2 vi vz0 vz1 vz2 (k := k) (by kernel_rfl) (by omega) rfl rfl rfl HFE.out hsv HBE.out ?_
            intro s w' fa' fc' va' vc' hS hb' hF' hV'
            have HEND : Hid (w'.heap[br]? = some (.cells #[.slice fa' (k + 1) fc', .slice va' (k + 1) vc'] 46 (0, 0)) ∧ Row w' br 4 1 (.slice fa' (k + 1) fc') (k + 1) (fun j => .bool (foundI (V c) q.type (q.K j))) ∧ ValsOf w' br w.heap.size (.slice va' (k + 1) vc') (k + 1) (fun j => valsL (thingOf (V c) q.type (q.K j)) q.nf q.F) ∧ Below br w2 w') := by
              refine ⟨hb', hF'.congr fun j hj => ?_, ⟨_, hV', fun j hj => ?_⟩, HWE.out.trans hS.below⟩
              · have hj' : j < k ∨ j = k := by omega
                rcases hj' with h1 | h1
                · simp [h1]
                · simp [h1, HFDE.out]
              · by_cases h1 : j < k * 1
                · obtain ⟨kv', hk'⟩ := hsr j (by omega)
                  simp only [if_pos h1]
                  exact ⟨kv', hk'.steady (hS.lower (by omega))⟩
                · have h2 : j = k := by omega
                  subst h2
                  simp only [if_neg h1]
                  obtain ⟨kv', hk'⟩ := HVR.out
                  exact ⟨kv', hk'.steady (hS.lower (by omega))⟩
            clear hS hb' hF' hV'
            simp only [putAll, Act.put, List.setIfInBounds_toArray, List.set_cons_succ, List.set_cons_zero]
            generalize s 68 = t68
            generalize s 69 = t69
            generalize s 70 = t70
            generalize s 71 = t71
            generalize s 72 = t72
            generalize s 73 = t73
            generalize s 74 = t74
            generalize s 75 = t75
            generalize s 76 = t76
            generalize s 77 = t77
            generalize s 78 = t78
            generalize s 79 = t79
            generalize s 80 = t80
            go_wp2_with fail
            go_roundw
            case rel => exact ⟨k + 1, by omega, by go_num, ⟨_, _, HEND.out.1, HEND.out.2.1, HEND.out.2.2.1⟩, HEND.out.2.2.2⟩
            case measure => simp [intOf]; omega
    · have hkn : k = q.nk := by omega
      have HW := Hid.intro hw'
      have HFD := Hid.intro hFd
      have HVL := Hid.intro hVl
      have HBX := Hid.intro hbx
      have HR3 := Hid.intro ((hw'.block _ (lt_of_block HR1.out)).trans HR1.out)
      obtain ⟨d0, d1⟩ : wr.cell? ⟨w.heap.size + 1, 0, none⟩ = some (.slice none 0 0) ∧ wr.cell? ⟨w.heap.size + 1, 1, none⟩ = some (.slice none 0 0) := by simp [World.cell?, HR3.out]
      obtain ⟨z0, z1⟩ : wr.frozen? ⟨w.heap.size + 1, 0, none⟩ = false ∧ wr.frozen? ⟨w.heap.size + 1, 1, none⟩ = false := by simp [World.frozen?, HR3.out]
      obtain ⟨r0, r1⟩ : wr.cell? ⟨br, 0, none⟩ = some fv ∧ wr.cell? ⟨br, 1, none⟩ = some vv := by simp [World.cell?, hbx]
      obtain ⟨ra, rc, rfl, -⟩ := hFd.slice
      obtain ⟨va, vc, rfl, -⟩ : ∃ a cap, vv = .slice a k cap ∧ k ≤ cap := by
        obtain ⟨sv, h1, -⟩ := hVl
        exact h1.slice
      clear hbx hFd hVl hw hw' hwB
      have HEND : Hid (Replies ((wr.setCell ⟨w.heap.size + 1, 0, none⟩ (.slice ra k rc)).setCell ⟨w.heap.size + 1, 1, none⟩ (.slice va k vc)) w.heap.size w.heap.size (.slice ra k rc) (.slice va k vc) k (fun j => foundI (V c) q.type (q.K j)) (fun j => valsL (thingOf (V c) q.type (q.K j)) q.nf q.F) ∧ Below w.heap.size w ((wr.setCell ⟨w.heap.size + 1, 0, none⟩ (.slice ra k rc)).setCell ⟨w.heap.size + 1, 1, none⟩ (.slice va k vc))) := by
        have h1 := heap_setCell_same wr (w.heap.size + 1) 0 _ 46 (.slice ra k rc) HR3.out
        have hS : ∀ ts : Nat → Bool, ts 46 = true → Steady ts w.heap.size wr ((wr.setCell ⟨w.heap.size + 1, 0, none⟩ (.slice ra k rc)).setCell ⟨w.heap.size + 1, 1, none⟩ (.slice va k vc)) := fun ts hts =>
          (steady_set HR3.out hts (by omega) _).trans (steady_set h1 hts (by omega) _)
        refine ⟨⟨(HFD.out.steady (hS tsW (by decide)) (by decide)).lower (by omega), (HVL.out.steady (hS tsF (by decide))).lower (by omega), fun j hj => ?_⟩, (HB1.out.trans (HW.out.mono HB1.out.size)).trans (hS tsF (by decide)).below⟩
        exact Nat.le_trans (valsL_few HD.out) (thingOf_ok HSV0.out.things HLS.out q.type (q.K j)).1.1
      rw [hkn] at HEND
      go_wp2_with fail
      rw [HSV.out]
      exact bodyPost_ret (v := .tuple #[.agg #[.slice ra q.nk rc, .slice va q.nk vc], .int .i64 0]) (by simp [results, Try.results19, go_sem, d0, d1]) rfl ⟨_, _, rfl, HEND.out⟩
end Go.Proofs.Ytjjggefmmeminab
