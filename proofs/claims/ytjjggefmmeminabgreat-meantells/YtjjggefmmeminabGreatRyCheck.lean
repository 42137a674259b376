import Derived.Test.YtjjggefmmeminabGreatRyCalled
import Derived.Test.YtjjggefmmeminabGreatRyWrong
import Derived.Test.YtjjggefmmeminabGreatJQy
import Derived.Test.YtjjggefmmeminabGreatJRe
/-
  The contracts of stitchref4.Called, Goes and Check, and of stitchref1.Part over parts that came in.
-/
namespace Go.Proofs.YtjjggefmmeminabGreat
open Go.RowKit Go.Sort Go.PlainAid

/-- A pointer to the part that partIdx tells, or nil. -/
def ppPtr (a : Option Addr) (n : Nat) (P : Nat → LPart) (name : ByteArray) : Value :=
  if partIdx n P name < 0 then .pointer none else .pointer (a.map fun ad => ⟨ad.block, ad.off + (partIdx n P name).toNat * 4, none⟩)
theorem ppPtr_none {a : Option Addr} {n : Nat} {P : Nat → LPart} {name : ByteArray} (h : partIdx n P name < 0) : ppPtr a n P name = .pointer none := by unfold ppPtr; rw [if_pos h]
theorem ppPtr_some {b o n t : Nat} {P : Nat → LPart} {name : ByteArray} (h : partIdx n P name = (t : Int)) : ppPtr (some ⟨b, o, none⟩) n P name = .pointer (some ⟨b, o + t * 4, none⟩) := by
  unfold ppPtr; rw [h, if_neg (by omega), Int.toNat_natCast]; rfl

set_option maxRecDepth 100000 in
set_option maxHeartbeats 1000000 in
theorem refPartA_any (a : Option Addr) (n cap : Nat) (P : Nat → LPart) (name : ByteArray) (w : World) (hP : PartsAt w a n P) :
    Calls Tryz.prog 19 #[.slice a n cap, .string name] w fun e w' => e = .returned (ppPtr a n P name) ∧ Below w.heap.size w w' := by
  have hn : n ≤ 9223372036854775807 := hP.1
  have HP := hidI hP
  clear hP
  go_enter Tryz.func19, Tryz.ntmps19
  go_wp2_with fail
  go_loop [8] (fun i => ∃ k : Nat, k ≤ n ∧ i = .int .i64 k ∧ Hid (∀ j, j < k → eqs (P j).name name = false)) (fun i => n - (intOf i).toNat)
  case atStart => exact ⟨0, Nat.zero_le _, rfl, (fun j hj => absurd hj (Nat.not_lt_zero _))⟩
  case round =>
    obtain ⟨k, hk, rfl, hb⟩ := hrel
    by_cases hlt : k < n
    · obtain ⟨b, o, ha, hc, -⟩ := HP.out.2 k hlt
      subst ha
      have hlt' : (k : Int) < (n : Int) := by omega
      have hk0 : (0 : Int) ≤ (k : Int) := by omega
      cases he : ((P k).name.toList == name.toList)
      · have hb2 : Hid (∀ j, j < k + 1 → eqs (P j).name name = false) := fun j hj => by
          rcases Nat.lt_succ_iff_lt_or_eq.1 hj with h | h
          · exact hb j h
          · rw [h, ← eqs_eq]; exact he
        go_wp2_with fail
        go_round
        case rel => exact ⟨k + 1, by omega, by go_num, hb2⟩
        case measure => simp [intOf]; omega
      · have hq : Hid (ppPtr (some ⟨b, o, none⟩) n P name = .pointer (some ⟨b, o + k * 4, none⟩)) := ppPtr_some (idx_hit hlt (by show eqs (P k).name name = true; rw [← eqs_eq]; exact he) hb.out)
        go_wp2_with fail
        go_ret
        exact ⟨by rw [hq.out]; rfl, Below.refl _ _⟩
    · have hq : Hid (ppPtr a n P name = .pointer none) := ppPtr_none (show idx _ _ < 0 from idx_neg.2 (fun j hj => hb.out j (by omega)))
      go_wp2_with fail
      go_ret
      exact ⟨by rw [hq.out]; rfl, Below.refl _ _⟩

def GoesOk (d : Nat) : Prop := ∀ (pa : Option Addr) (pn pcap : Nat) (P : Nat → LPart) (name : ByteArray) (a : Option Addr) (cap : Nat) (L : List (Pick d)) (w : World), PartsAt w pa pn P → PicksAt w d a L → L.length ≤ cap →
    Calls Tryz.prog 43 #[.slice pa pn pcap, .string name, .slice a L.length cap] w fun e w' => e = .returned (.int .i64 (cL pn P d name L)) ∧ Below w.heap.size w w'

theorem fieldIdx_lt' {n : Nat} {F : Nat → LField} {name : ByteArray} (h : ¬ fieldIdx n F name < 0) : ∃ k : Nat, fieldIdx n F name = (k : Int) ∧ k < n := by
  rcases idx_cases n (fun i => eqs (F i).name name) with ⟨h1, -⟩ | ⟨k, hk, h1, -⟩
  · exact absurd (by unfold fieldIdx; rw [h1]; decide) h
  · exact ⟨k, h1, hk⟩
theorem ahead_hit {d : Nat} {L : List (Pick (d + 1))} {k q : Nat} {name : ByteArray} (hk : k ≤ L.length) (hq : q < k) (h : eqs (called (pickN L q)) name = true) : ((L.take k).map called).any (fun s => eqs s name) = true := by
  rw [List.any_eq_true]
  refine ⟨called (pickN L q), List.mem_map.2 ⟨_, ?_, rfl⟩, h⟩
  have hl : q < (L.take k).length := by rw [List.length_take]; omega
  have e : pickN L q = (L.take k)[q] := by rw [pickN_get (by omega), List.getElem_take]
  rw [e]; exact List.getElem_mem hl
theorem ahead_none {d : Nat} {L : List (Pick (d + 1))} {k : Nat} {name : ByteArray} (hk : k ≤ L.length) (h : ∀ q, q < k → eqs (called (pickN L q)) name = false) : ((L.take k).map called).any (fun s => eqs s name) = false := by
  rw [List.any_eq_false]
  intro s hs
  obtain ⟨p, hp, rfl⟩ := List.mem_map.1 hs
  obtain ⟨i, hi, rfl⟩ := List.mem_iff_getElem.1 hp
  have hi2 : i < k ∧ i < L.length := by rw [List.length_take] at hi; omega
  have e : (L.take k)[i] = pickN L i := by rw [pickN_get hi2.2, List.getElem_take]
  rw [e, h i hi2.1]; decide

set_option maxRecDepth 100000 in
set_option maxHeartbeats 4000000 in
theorem goes_succ (d : Nat) (ih : GoesOk d) : GoesOk (d + 1) := by
  intro pa pn pcap P name a cap L w hPA hP hcap
  have hn : L.length ≤ 9223372036854775807 := hP.max
  have hpn : pn ≤ 9223372036854775807 := hPA.1
  have hcl := refPartA_any pa pn pcap P name w hPA
  have HP := hidI hP
  have HPA := hidI hPA
  have HE : Hid (cL pn P (d + 1) name L = if partIdx pn P name < 0 then 5 else cR pn P (d + 1) (P (partIdx pn P name).toNat).nf (P (partIdx pn P name).toNat).F [] L) := rfl
  by_cases hneg : partIdx pn P name < 0
  · have HR : Hid (cL pn P (d + 1) name L = 5) := by rw [HE.out, if_pos hneg]; rfl
    rw [ppPtr_none hneg] at hcl
    clear hP hPA hneg HE
    go_enter Tryz.func43, Tryz.ntmps43
    go_wp2_with fail
    refine hcl.mono ?_
    clear hcl
    rintro e w1 ⟨rfl, hw1⟩
    go_wp2_with fail
    go_ret
    exact ⟨by rw [HR.out]; rfl, hw1⟩
  obtain ⟨x, hx, hxn⟩ : ∃ k : Nat, partIdx pn P name = (k : Int) ∧ k < pn := by
    rcases idx_cases pn (fun i => eqs (P i).name name) with ⟨h1, -⟩ | ⟨k, hk, h1, -⟩
    · exact absurd (by unfold partIdx; rw [h1]; decide) hneg
    · exact ⟨k, h1, hk⟩
  obtain ⟨pb, po, hpa, -⟩ := hPA.2 x hxn
  subst hpa
  rw [ppPtr_some hx] at hcl
  rw [if_neg hneg, hx, Int.toNat_natCast] at HE
  clear hP hPA hneg hx
  go_enter Tryz.func43, Tryz.ntmps43
  go_wp2_with fail
  refine hcl.mono ?_
  clear hcl
  rintro e w1 ⟨rfl, hw1⟩
  have HB1 := hidI hw1
  clear hw1
  go_wp2_with fail
  go_loopw [22] (fun i wr => ∃ k : Nat, k ≤ L.length ∧ i = .int .i64 k ∧ Hid (cR pn P (d + 1) (P x).nf (P x).F [] L = cR pn P (d + 1) (P x).nf (P x).F ((L.take k).map called) (L.drop k)) ∧ Below w.heap.size w wr) (fun i _ => L.length - (intOf i).toNat)
  case atStart => exact ⟨0, Nat.zero_le _, rfl, rfl, HB1.out⟩
  case round =>
    obtain ⟨k, hk, rfl, HRR, hBr⟩ := hrel
    by_cases hlt : k < L.length
    · obtain ⟨b0, o0, hpe, c0, c1, c2, c3, s0, hF⟩ := (HPA.out.kept hBr).2 x hxn
      cases hpe
      obtain ⟨b, o, A, C, ha, q0, q1, q2, hC, t0, t1, hs⟩ := (HP.out.kept hBr).2 k hlt
      subst ha
      have hlt' : (k : Int) < (L.length : Int) := by omega
      have hk0 : (0 : Int) ≤ (k : Int) := by omega
      have hkc : (k : Int) ≤ (cap : Int) := by omega
      have HD : Hid (cR pn P (d + 1) (P x).nf (P x).F ((L.take k).map called) (L.drop k) = if cP pn P d (P x).nf (P x).F ((L.take k).map called) (pickN L k) ≠ 0 then cP pn P d (P x).nf (P x).F ((L.take k).map called) (pickN L k) else cR pn P (d + 1) (P x).nf (P x).F ((L.take (k + 1)).map called) (L.drop (k + 1))) := by
        rw [drop_pick hlt, cR_cons, take_pick hlt, List.map_append]; rfl
      have HC : Hid (cP pn P d (P x).nf (P x).F ((L.take k).map called) (pickN L k) = if fieldIdx (P x).nf (P x).F (pfield (pickN L k)) < 0 then 5 else if ((L.take k).map called).any (fun q => eqs q (called (pickN L k))) then 6 else
          if decide (((P x).F (fieldIdx (P x).nf (P x).F (pfield (pickN L k))).toNat).kind = 1) == !(subs (pickN L k)).isEmpty then 7 else if (subs (pickN L k)).isEmpty then 0 else cL pn P d ((P x).F (fieldIdx (P x).nf (P x).F (pfield (pickN L k))).toNat).type (subs (pickN L k))) := rfl
      have HGO : Hid (cP pn P d (P x).nf (P x).F ((L.take k).map called) (pickN L k) = 0 → cR pn P (d + 1) (P x).nf (P x).F [] L = cR pn P (d + 1) (P x).nf (P x).F ((L.take (k + 1)).map called) (L.drop (k + 1))) := fun h => by rw [HRR.out, HD.out, if_neg (fun hh => hh h)]
      have HBAD : Hid (∀ v, v ≠ 0 → cP pn P d (P x).nf (P x).F ((L.take k).map called) (pickN L k) = v → cL pn P (d + 1) name L = v) := fun v hv h => by rw [HE.out, HRR.out, HD.out, if_pos (by rw [h]; exact hv), h]
      have HA1 : Hid (∀ q, q < k → eqs (called (pickN L q)) (called (pickN L k)) = true → ((L.take k).map called).any (fun q => eqs q (called (pickN L k))) = true) := fun q hq h => ahead_hit hk hq h
      have HA2 : Hid ((∀ q, q < k → eqs (called (pickN L q)) (called (pickN L k)) = false) → ((L.take k).map called).any (fun q => eqs q (called (pickN L k))) = false) := fun h => ahead_none hk h
      generalize hV : wr.alloc (Obj.cells #[.string (nick (pickN L k)), .string (pfield (pickN L k)), .slice A (subs (pickN L k)).length C] 72) = V
      have hBV : Below wr.heap.size wr V := by rw [← hV]; exact below1 _ _
      have v0 : V.cell? ⟨wr.heap.size, 0, none⟩ = some (.string (nick (pickN L k))) := by rw [← hV, World.cell?_alloc_at _ _ _ _ rfl]; rfl
      have v1 : V.cell? ⟨wr.heap.size, 1, none⟩ = some (.string (pfield (pickN L k))) := by rw [← hV, World.cell?_alloc_at _ _ _ _ rfl]; rfl
      have v2 : V.cell? ⟨wr.heap.size, 2, none⟩ = some (.slice A (subs (pickN L k)).length C) := by rw [← hV, World.cell?_alloc_at _ _ _ _ rfl]; rfl
      have z1 := keptCell hBV c1
      have HFV := hidI (hF.kept hBV)
      have HSV := hidI (hs.kept hBV)
      have HBV : Hid (Below w.heap.size w V) := hBr.trans (hBV.mono hBr.size)
      have e0 := cell_regrown v0
      have e1 := cell_regrown v1
      have e2 := cell_regrown v2
      have e3 := cell_regrown z1
      have cA : ∀ d' os, Calls Tryz.prog 45 #[.slice (P x).fa (P x).nf (P x).fcap, .string (pfield (pickN L k))] (grow (redrawn V d') os) fun e w'' => e = .returned (.int .i64 (fieldIdx (P x).nf (P x).F (pfield (pickN L k)))) ∧ ∃ r : Regrown, w'' = grow (redrawn V r.d) r.os := fun d' os => Calls.regrown_of (refAt_any _ _ _ _ _ _ (HFV.out.kept (below_regrown V d' os)))
      clear hF hs hBV hBr HD HRR s0 c0 c2 c3
      have HPK : Hid (PicksAt w (d + 1) (some ⟨b, o, none⟩) L) := HP
      generalize pickN L k = p at *
      generalize hah : (L.take k).map called = ah at *
      have HAH := hidI hah
      clear hah
      go_wp2_with fail
      clear hV q0 q1 q2
      refine wp_region_quiet_below (by kernel_rfl) (by kernel_rfl) ?_
      repeat (go_big_quiet_step (first | exact cA _ _))
      refine wpQuiet_nil ?_
      intro _ hw'
      obtain ⟨⟨dq, osq⟩, hw''⟩ := hw'
      subst hw''
      have hB2 := below_regrown V dq osq
      have HB2 : Hid (Below w.heap.size w (grow (redrawn V dq) osq)) := HBV.out.trans (hB2.mono HBV.out.size)
      have v0 := e0 dq osq
      have v1 := e1 dq osq
      have v2 := e2 dq osq
      have z1 := e3 dq osq
      have HF2 := hidI (HFV.out.kept hB2)
      have HS2 := hidI (HSV.out.kept hB2)
      clear hB2 cA e0 e1 e2 e3 HFV HSV HBV
      generalize grow (redrawn V dq) osq = w2 at *
      by_cases hneg : fieldIdx (P x).nf (P x).F (pfield p) < 0
      · have HR := hidI (HBAD.out 5 (by decide) (by rw [HC.out, if_pos hneg]))
        go_wp2_with fail
        go_ret
        exact ⟨by rw [HR.out]; rfl, HB2.out⟩
      rw [if_neg hneg] at HC
      obtain ⟨y, hy, hyn⟩ := fieldIdx_lt' hneg
      rw [hy] at HC ⊢
      rw [Int.toNat_natCast] at HC
      have hy0 : ¬ (y : Int) < 0 := by omega
      clear hneg hy
      generalize wr.heap.size = bp at *
      go_wp2_with fail
      go_loopw [41] (fun i wr => ∃ q : Nat, q ≤ k ∧ i = .int .i64 q ∧ Hid (∀ j, j < q → eqs (called (pickN L j)) (called p) = false) ∧ Below w2.heap.size w2 wr) (fun i _ => k - (intOf i).toNat)
      case atStart => exact ⟨0, Nat.zero_le _, rfl, (fun j hj => absurd hj (Nat.not_lt_zero _)), Below.refl _ _⟩
      case round =>
        obtain ⟨q, hq, rfl, HQ, hBq⟩ := hrel
        have HBQ : Hid (Below w.heap.size w wr) := HB2.out.trans (hBq.mono HB2.out.size)
        by_cases hqk : q < k
        · obtain ⟨b9, o9, A9, C9, ha9, r0, r1, r2, -⟩ := (HPK.out.kept HBQ.out).2 q (by omega)
          cases ha9
          have hqk' : (q : Int) < (k : Int) := by omega
          have hq0 : (0 : Int) ≤ (q : Int) := by omega
          have u0 := keptCell hBq v0
          have u1 := keptCell hBq v1
          have u2 := keptCell hBq v2
          generalize hV : wr.alloc (Obj.cells #[.string (nick (pickN L q)), .string (pfield (pickN L q)), .slice A9 (subs (pickN L q)).length C9] 72) = V9
          have hBV : Below wr.heap.size wr V9 := by rw [← hV]; exact below1 _ _
          have m0 : V9.cell? ⟨wr.heap.size, 0, none⟩ = some (.string (nick (pickN L q))) := by rw [← hV, World.cell?_alloc_at _ _ _ _ rfl]; rfl
          have m1 : V9.cell? ⟨wr.heap.size, 1, none⟩ = some (.string (pfield (pickN L q))) := by rw [← hV, World.cell?_alloc_at _ _ _ _ rfl]; rfl
          have m2 : V9.cell? ⟨wr.heap.size, 2, none⟩ = some (.slice A9 (subs (pickN L q)).length C9) := by rw [← hV, World.cell?_alloc_at _ _ _ _ rfl]; rfl
          have f0 := cell_regrown m0
          have f1 := cell_regrown m1
          have f2 := cell_regrown m2
          have g0 := cell_regrown (keptCell hBV u0)
          have g1 := cell_regrown (keptCell hBV u1)
          have g2 := cell_regrown (keptCell hBV u2)
          have cA : ∀ d' os, Calls Tryz.prog 46 #[.agg #[.string (nick (pickN L q)), .string (pfield (pickN L q)), .slice A9 (subs (pickN L q)).length C9]] (grow (redrawn V9 d') os) fun e w'' => e = .returned (.string (called (pickN L q))) ∧ ∃ r : Regrown, w'' = grow (redrawn V9 r.d) r.os := fun d' os => Calls.regrown_of (rcalled_any _ _ _ _ _ _)
          have cB : ∀ d' os, Calls Tryz.prog 46 #[.agg #[.string (nick p), .string (pfield p), .slice A (subs p).length C]] (grow (redrawn V9 d') os) fun e w'' => e = .returned (.string (called p)) ∧ ∃ r : Regrown, w'' = grow (redrawn V9 r.d) r.os := fun d' os => Calls.regrown_of (rcalled_any _ _ _ _ _ _)
          have HBV9 : Hid (Below w2.heap.size w2 V9) := hBq.trans (hBV.mono hBq.size)
          have HEQ := hidI (eqs_eq (called (pickN L q)) (called p))
          clear hBV hBq u0 u1 u2 m0 m1 m2
          go_wp2_with fail
          clear hV r0 r1 r2
          refine wp_region_quiet_below (by kernel_rfl) (by kernel_rfl) ?_
          repeat (go_big_quiet_step (first | exact cA _ _ | exact cB _ _))
          refine wpQuiet_nil ?_
          intro _ hw'
          obtain ⟨⟨dq9, osq9⟩, hw''⟩ := hw'
          subst hw''
          have hB9 := below_regrown V9 dq9 osq9
          have HB9 : Hid (Below w2.heap.size w2 (grow (redrawn V9 dq9) osq9)) := HBV9.out.trans (hB9.mono HBV9.out.size)
          clear hB9 cA cB f0 f1 f2 g0 g1 g2 HBV9
          generalize grow (redrawn V9 dq9) osq9 = w9 at *
          cases he : ((called (pickN L q)).toList == (called p).toList) with
          | true =>
            have HR := hidI (HBAD.out 6 (by decide) (by rw [HC.out, if_pos (HA1.out q hqk (by rw [← HEQ.out]; exact he))]))
            go_wp2_with fail
            go_ret
            exact ⟨by rw [HR.out]; rfl, HB2.out.trans (HB9.out.mono HB2.out.size)⟩
          | false =>
            have HQ2 : Hid (∀ j, j < q + 1 → eqs (called (pickN L j)) (called p) = false) := fun j hj => by
              rcases Nat.lt_succ_iff_lt_or_eq.1 hj with h | h
              · exact HQ.out j h
              · rw [h, ← HEQ.out]; exact he
            go_wp2_with fail
            go_roundw
            case rel => exact ⟨q + 1, by omega, by go_num, HQ2, HB9.out⟩
            case measure => simp [intOf]; omega
        · have hqn : q = k := by omega
          subst hqn
          rw [if_neg (by rw [HA2.out HQ.out]; decide)] at HC
          have v0 := keptCell hBq v0
          have v1 := keptCell hBq v1
          have v2 := keptCell hBq v2
          have z1 := keptCell hBq z1
          have HF3 := hidI (HF2.out.kept hBq)
          have HS3 := hidI (HS2.out.kept hBq)
          obtain ⟨fb, fo, hfa, f0, f1, f2, hfs0, hfs2, hfw⟩ := HF3.out.2 y hyn
          rw [hfa] at z1
          have hyn' : (y : Int) < ((P x).nf : Int) := by omega
          have hy00 : (0 : Int) ≤ (y : Int) := by omega
          clear hBq HA1 HA2 HQ hfa
          generalize hT : wr.alloc (Obj.cells #[.string ((P x).F y).name, .int .i64 ((P x).F y).kind, .string ((P x).F y).type] 113) = T
          have hBT : Below wr.heap.size wr T := by rw [← hT]; exact below1 _ _
          have n1 : T.cell? ⟨wr.heap.size, 1, none⟩ = some (.int .i64 ((P x).F y).kind) := by rw [← hT, World.cell?_alloc_at _ _ _ _ rfl]; rfl
          have n2 : T.cell? ⟨wr.heap.size, 2, none⟩ = some (.string ((P x).F y).type) := by rw [← hT, World.cell?_alloc_at _ _ _ _ rfl]; rfl
          have v2T := keptCell hBT v2
          have HBT : Hid (Below w.heap.size w T) := HBQ.out.trans (hBT.mono HBQ.out.size)
          have HST := hidI (HS3.out.kept hBT)
          clear hBT
          generalize hkd : ((P x).F y).kind = kd at *
          generalize hty : ((P x).F y).type = ty at *
          by_cases hz : (subs p).length = 0
          · have hemp : (subs p).isEmpty = true := by rw [List.isEmpty_iff]; exact List.eq_nil_of_length_eq_zero hz
            rw [hemp] at HC
            have hz' : ¬ 0 < ((subs p).length : Int) := by omega
            have hzn : ¬ 0 < (subs p).length := by omega
            have hze : (subs p).length = 0 := hz
            have hzb : (((subs p).length : Int) == 0) = true := by rw [beq_iff_eq]; omega
            by_cases hk1 : kd = 1
            · have hk1' : (kd == 1) = true := by simpa using hk1
              have hk2' : (kd != 1) = false := by simpa using hk1
              have HR := hidI (HGO.out (by rw [HC.out, hk1]; rfl))
              clear hz hk1 hemp
              go_wp2_with fail
              go_roundw
              case rel => exact ⟨q + 1, by omega, by go_num, HR, HBT.out⟩
              case measure => simp [intOf]; omega
            · have hk1' : (kd == 1) = false := by simpa using hk1
              have hk2' : (kd != 1) = true := by simpa using hk1
              have HR := hidI (HBAD.out 7 (by decide) (by rw [HC.out, decide_eq_false hk1]; rfl))
              clear hz hk1 hemp
              go_wp2_with fail
              go_ret
              exact ⟨by rw [HR.out]; rfl, HBT.out⟩
          · have hemp : (subs p).isEmpty = false := by
              cases h : (subs p).isEmpty with
              | false => rfl
              | true => exact absurd (by rw [List.isEmpty_iff.1 h]; rfl) hz
            rw [hemp] at HC
            have hz' : 0 < ((subs p).length : Int) := by omega
            have hzn : 0 < (subs p).length := by omega
            have hze : ¬ (subs p).length = 0 := hz
            have hzb : (((subs p).length : Int) == 0) = false := by rw [beq_eq_false_iff_ne]; omega
            by_cases hk1 : kd = 1
            · have hk1' : (kd == 1) = true := by simpa using hk1
              have hk2' : (kd != 1) = false := by simpa using hk1
              have HR := hidI (HBAD.out 7 (by decide) (by rw [HC.out, hk1]; rfl))
              clear hz hk1 hemp
              go_wp2_with fail
              go_ret
              exact ⟨by rw [HR.out]; rfl, HBT.out⟩
            · have hk1' : (kd == 1) = false := by simpa using hk1
              have hk2' : (kd != 1) = true := by simpa using hk1
              have HC2 : Hid (cP pn P d (P x).nf (P x).F ah p = cL pn P d ty (subs p)) := by rw [HC.out, decide_eq_false hk1]; rfl
              have hcl := ih (some ⟨pb, po, none⟩) pn pcap P ty A C (subs p) T (HPA.out.kept HBT.out) HST.out hC
              clear hz hk1 hemp HC
              generalize cL pn P d ty (subs p) = r at *
              go_wp2_with fail
              refine hcl.mono ?_
              clear hcl
              rintro e w5 ⟨rfl, hw5⟩
              have HB5 : Hid (Below w.heap.size w w5) := HBT.out.trans (hw5.mono HBT.out.size)
              clear hw5
              by_cases hr : r = 0
              · have hr' : (r != 0) = false := by simpa using hr
                have HR := hidI (HGO.out (by rw [HC2.out]; exact hr))
                clear hr
                go_wp2_with fail
                go_roundw
                case rel => exact ⟨q + 1, by omega, by go_num, HR, HB5.out⟩
                case measure => simp [intOf]; omega
              · have hr' : (r != 0) = true := by simpa using hr
                have HR := hidI (HBAD.out r hr HC2.out)
                clear hr
                go_wp2_with fail
                go_ret
                exact ⟨by rw [HR.out]; rfl, HB5.out⟩
    · have hkn : k = L.length := by omega
      have HR2 : Hid (cL pn P (d + 1) name L = 0) := by
        rw [HE.out, HRR.out, hkn, List.drop_length, cR_nil]; rfl
      clear hkn
      go_wp2_with fail
      go_ret
      exact ⟨by rw [HR2.out]; rfl, hBr⟩

set_option maxRecDepth 100000 in
set_option maxHeartbeats 2000000 in
theorem goes_zero : GoesOk 0 := by
  intro pa pn pcap P name a cap L w hPA hP hcap
  have hcl := refPartA_any pa pn pcap P name w hPA
  have HE : Hid (cL pn P 0 name L = if partIdx pn P name < 0 then 5 else 0) := rfl
  obtain rfl := nil0 L
  by_cases hneg : partIdx pn P name < 0
  · have HR : Hid (cL pn P 0 name [] = 5) := by rw [HE.out, if_pos hneg]; rfl
    rw [ppPtr_none hneg] at hcl
    clear hP hPA hneg HE
    go_enter Tryz.func43, Tryz.ntmps43
    go_wp2_with fail
    refine hcl.mono ?_
    clear hcl
    rintro e w1 ⟨rfl, hw1⟩
    go_wp2_with fail
    go_ret
    exact ⟨by rw [HR.out]; rfl, hw1⟩
  obtain ⟨x, hx, hxn⟩ : ∃ k : Nat, partIdx pn P name = (k : Int) ∧ k < pn := by
    rcases idx_cases pn (fun i => eqs (P i).name name) with ⟨h1, -⟩ | ⟨k, hk, h1, -⟩
    · exact absurd (by unfold partIdx; rw [h1]; decide) hneg
    · exact ⟨k, h1, hk⟩
  obtain ⟨pb, po, hpa, -⟩ := hPA.2 x hxn
  subst hpa
  have HR : Hid (cL pn P 0 name [] = 0) := by rw [HE.out, if_neg hneg]; rfl
  rw [ppPtr_some hx] at hcl
  clear hP hPA hneg hx HE hcap
  go_enter Tryz.func43, Tryz.ntmps43
  go_wp2_with fail
  refine hcl.mono ?_
  clear hcl
  rintro e w1 ⟨rfl, hw1⟩
  have HB1 := hidI hw1
  clear hw1
  go_wp2_with fail
  go_loopw [22] (fun i wr => i = .int .i64 0 ∧ wr = w1) (fun _ _ => 0)
  case atStart => exact ⟨rfl, rfl⟩
  case round =>
    obtain ⟨rfl, rfl⟩ := hrel
    go_wp2_with fail
    go_ret
    exact ⟨by rw [HR.out]; rfl, HB1.out⟩
theorem goes_any : ∀ d, GoesOk d
  | 0 => goes_zero
  | d + 1 => goes_succ d (goes_any d)

set_option maxRecDepth 100000 in
set_option maxHeartbeats 1000000 in
theorem rcheck_any (pa : Option Addr) (pn pcap : Nat) (P : Nat → LPart) (d : Nat) (type key : ByteArray) (a : Option Addr) (cap : Nat) (L : List (Pick d)) (w : World) (hPA : PartsAt w pa pn P) (hP : PicksAt w d a L) (hcap : L.length ≤ cap) (hs0 : Small type) (hs1 : Small key) :
    Calls Tryz.prog 18 #[.slice pa pn pcap, .agg #[.string type, .string key, .slice a L.length cap]] w fun e w' => e = .returned (.int .i64 (cA pn P d type key L)) ∧ Below w.heap.size w w' := by
  generalize hW : w.alloc (Obj.cells #[.string type, .string key, .slice a L.length cap] 25) = W
  have hBW : Below w.heap.size w W := by rw [← hW]; exact below1 _ _
  have hbx : W.heap[w.heap.size]? = some (.cells #[.string type, .string key, .slice a L.length cap] 25 (0, 0)) := by rw [← hW]; exact heap_alloc_new _ _
  have c0 : W.cell? ⟨w.heap.size, 0, none⟩ = some (.string type) := by simp [World.cell?, hbx]
  have c1 : W.cell? ⟨w.heap.size, 1, none⟩ = some (.string key) := by simp [World.cell?, hbx]
  have c2 : W.cell? ⟨w.heap.size, 2, none⟩ = some (.slice a L.length cap) := by simp [World.cell?, hbx]
  have hcl := rwrong_any d type key a cap L W (hP.kept hBW) hs0 hs1
  have HP := hidI hP
  have HPA := hidI hPA
  have HBW := hidI hBW
  have HE : Hid (cA pn P d type key L = if wA d type key L ≠ 0 then wA d type key L else cL pn P d type L) := rfl
  clear hP hbx hBW hPA
  generalize wA d type key L = r at *
  go_enter Tryz.func18, Tryz.ntmps18
  go_wp2_with fail
  clear hW
  refine hcl.mono ?_
  clear hcl
  rintro e w1 ⟨rfl, hw1⟩
  have c0 := keptCell hw1 c0
  have c2 := keptCell hw1 c2
  have HB1 : Hid (Below w.heap.size w w1) := HBW.out.trans (hw1.mono HBW.out.size)
  clear hw1 HBW c1
  by_cases hr : r = 0
  · have hr' : (r != 0) = false := by simpa using hr
    have HR : Hid (cA pn P d type key L = cL pn P d type L) := by rw [HE.out, if_neg (by simp [hr])]; rfl
    have hcl := goes_any d pa pn pcap P type a cap L w1 (HPA.out.kept HB1.out) (HP.out.kept HB1.out) hcap
    clear hr HE
    go_wp2_with fail
    refine hcl.mono ?_
    clear hcl
    rintro e w2 ⟨rfl, hw2⟩
    have HB2 : Hid (Below w.heap.size w w2) := HB1.out.trans (hw2.mono HB1.out.size)
    clear hw2
    go_wp2_with fail
    go_ret
    exact ⟨by rw [HR.out]; rfl, HB2.out⟩
  · have hr' : (r != 0) = true := by simpa using hr
    have HR : Hid (cA pn P d type key L = r) := by rw [HE.out, if_pos hr]; rfl
    clear hr HE
    go_wp2_with fail
    go_ret
    exact ⟨by rw [HR.out]; rfl, HB1.out⟩
end Go.Proofs.YtjjggefmmeminabGreat
