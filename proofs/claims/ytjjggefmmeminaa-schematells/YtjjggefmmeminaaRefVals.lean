/-
  The contract of stitchref1.WrongVals.
-/
import Derived.Test.YtjjggefmmeminaaRefFind
import Derived.Test.YtjjggefmmeminaaRefNamed
import Derived.Test.YtjjggefmmeminaaThings
namespace Go.Proofs.Ytjjggefmmeminaa
open Go.RowKit Go.Sort Go.PlainAid

/-- What is wrong with a thing's vals. -/
def wrongVals (nf : Nat) (F : Nat → LField) (nv : Nat) (V : Nat → LVal) : Int := if nv ≠ nf then 4 else (fault nf (fun j => wrongVal (F j) (V j))).1

set_option maxHeartbeats 2000000 in
theorem refVals_any (b o : Nat) (fa va : Option Addr) (nf fcap nv vcap : Nat) (F : Nat → LField) (V : Nat → LVal) (w : World) (hc : w.cell? ⟨b, o + 1, none⟩ = some (.slice fa nf fcap)) (hF : FieldsAt w fa nf F) (hV : ValsAt w va nv V) :
    Calls Try.prog 69 #[.pointer (some ⟨b, o, none⟩), .slice va nv vcap] w fun e w' => e = .returned (.int .i64 (wrongVals nf F nv V)) ∧ Below w.heap.size w w' := by
  have hnf : nf ≤ 9223372036854775807 := hF.1
  have hnv : nv ≤ 9223372036854775807 := hV.1
  have HF : Hid (FieldsAt w fa nf F) := hF
  have HV : Hid (ValsAt w va nv V) := hV
  clear hF hV
  by_cases h4 : nv = nf
  case neg =>
    have h4b : ((nv : Int) != (nf : Int)) = true := by rw [bne_iff_ne]; omega
    have hfin : Hid (wrongVals nf F nv V = 4) := by unfold wrongVals Hid; rw [if_pos h4]
    clear h4
    go_enter Try.func69, Try.ntmps69
    go_wp2_with fail
    go_ret
    exact ⟨by rw [hfin.out]; rfl, Below.refl _ _⟩
  have hfin0 : Hid (wrongVals nf F nv V = (fault nf (fun j => wrongVal (F j) (V j))).1) := by unfold wrongVals Hid; rw [if_neg (by omega)]
  subst h4
  go_enter Try.func69, Try.ntmps69
  go_wp2_with fail
  go_loopw [23] (fun i wr => ∃ k : Nat, k ≤ nv ∧ i = .int .i64 k ∧ Hid (∀ j, j < k → wrongVal (F j) (V j) = 0) ∧ Below w.heap.size w wr) (fun i _ => nv - (intOf i).toNat)
  case atStart => exact ⟨0, Nat.zero_le _, rfl, (fun j hj => absurd hj (Nat.not_lt_zero _)), Below.refl _ _⟩
  case round =>
    obtain ⟨k, hk, rfl, hb, hw⟩ := hrel
    by_cases hlt : k < nv
    · obtain ⟨b1, o1, ha, f0, f1, f2, -⟩ := (HF.out.kept hw).2 k hlt
      subst ha
      obtain ⟨b2, o2, ha, v0, v1, v2, -, -, -, hK⟩ := (HV.out.kept hw).2 k hlt
      subst ha
      have hlt' : (k : Int) < (nv : Int) := by omega
      have hk0 : (0 : Int) ≤ (k : Int) := by omega
      have hb2 : b2 < wr.heap.size := block_lt_of_cell v0
      have hnk : (V k).nk ≤ 9223372036854775807 := hK.1
      generalize hy : (V k).ka = ka at *
      generalize hW : (wr.alloc (Obj.cells #[Value.string (F k).name, Value.int IntKind.i64 (F k).kind, Value.string (F k).type] 79)).alloc (Obj.cells #[Value.string (V k).field, Value.string (V k).text, Value.slice ka (V k).nk (V k).kcap] 118) = W
      have hB : Below wr.heap.size wr W := by rw [← hW]; exact below2 _ _ _
      have k0 : W.cell? ⟨wr.heap.size, 0, none⟩ = some (.string (F k).name) := by rw [← hW, World.cell?_alloc_past _ _ _ (by simp), World.cell?_alloc_at _ _ _ _ rfl]; rfl
      have k1 : W.cell? ⟨wr.heap.size, 1, none⟩ = some (.int .i64 (F k).kind) := by rw [← hW, World.cell?_alloc_past _ _ _ (by simp), World.cell?_alloc_at _ _ _ _ rfl]; rfl
      have k2 : W.cell? ⟨wr.heap.size + 1, 0, none⟩ = some (.string (V k).field) := by rw [← hW, World.cell?_alloc_at _ _ _ _ (by simp)]; rfl
      have k3 : W.cell? ⟨wr.heap.size + 1, 1, none⟩ = some (.string (V k).text) := by rw [← hW, World.cell?_alloc_at _ _ _ _ (by simp)]; rfl
      have k4 : W.cell? ⟨wr.heap.size + 1, 2, none⟩ = some (.slice ka (V k).nk (V k).kcap) := by rw [← hW, World.cell?_alloc_at _ _ _ _ (by simp)]; rfl
      have HBW : Hid (Below w.heap.size w W) := hw.trans (hB.mono hw.size)
      have HKW : Hid (KeysAt W ka (V k).nk (V k).K) := hK.kept hB
      have hx : Hid (wrongVal (F k) (V k) = valOf ((V k).field.toList == (F k).name.toList) (F k).kind (V k).nk (V k).text.size (idx (V k).nk (fun i => !named ((V k).K i)))) := by unfold Hid wrongVal; rw [← eqs_eq]
      have hbadv : Hid (∀ e : Int, wrongVal (F k) (V k) = e → e ≠ 0 → wrongVals nv F nv V = e) := fun e he h0 => by
        rw [hfin0.out, fault_hit (g := fun j => wrongVal (F j) (V j)) hlt (by show wrongVal (F k) (V k) ≠ 0; rw [he]; exact h0) hb.out]
        exact he
      have hgo : Hid (wrongVal (F k) (V k) = 0 → ∀ i, i < k + 1 → wrongVal (F i) (V i) = 0) := fun h0 i hi => by
        rcases Nat.lt_succ_iff_lt_or_eq.1 hi with h | h
        · exact hb i h
        · rw [h]; exact h0
      clear hK hw hB hy
      go_wp2_with fail
      · have hfin : Hid (wrongVals nv F nv V = 6) := hbadv.out 6 (by rw [hx.out, val_6 ‹_›]) (by decide)
        go_ret
        exact ⟨by rw [hfin.out]; rfl, HBW.out⟩
      · have hk : (F k).kind = 1 := ‹(F k).kind = 1›
        have h2 : (V k).nk = 0 := ‹_›
        have h3 : 40 < ((V k).text.size : Int) := ‹_›
        have hfin : Hid (wrongVals nv F nv V = 3) := hbadv.out 3 (by rw [hx.out, val_3 ‹_› (by omega) (by omega) (by omega)]) (by decide)
        go_ret
        exact ⟨by rw [hfin.out]; rfl, HBW.out⟩
      · have hk : (F k).kind = 1 := ‹(F k).kind = 1›
        have h2 : (V k).nk = 0 := ‹_›
        have h3 : ((V k).text.size : Int) ≤ 40 := ‹_›
        have hx2 : Hid (wrongVal (F k) (V k) = if 0 ≤ idx (V k).nk (fun i => !named ((V k).K i)) then 6 else 0) := by unfold Hid; rw [hx.out, val_x ‹_› (by omega) (by omega) (by omega)]
        have hq : Hid (∀ j, j < k + 1 → wrongVal (F j) (V j) = 0) := hgo.out (by
          rw [hx2.out, if_neg]
          have : idx (V k).nk (fun i => !named ((V k).K i)) < 0 := idx_neg.2 fun i hi => by omega
          omega)
        refine wp_loop_rounds 1 ?_
        rw [rounds_succ]
        go_wp2_with fail
        go_roundw
        case rel => exact ⟨k + 1, by omega, by go_num, hq, HBW.out⟩
        case measure => simp [intOf]; omega
      · have hk : (F k).kind = 1 := ‹(F k).kind = 1›
        have h2 : ¬ (V k).nk = 0 := ‹_›
        have hfin : Hid (wrongVals nv F nv V = 7) := hbadv.out 7 (by rw [hx.out, val_7 ‹_› (.inl ⟨hk, by omega⟩)]) (by decide)
        go_ret
        exact ⟨by rw [hfin.out]; rfl, HBW.out⟩
      · have hk : ¬ (F k).kind = 1 := ‹_›
        have hfin : Hid (wrongVals nv F nv V = 7) := hbadv.out 7 (by rw [hx.out, val_7 ‹_› (.inr ⟨hk, someText ‹_›⟩)]) (by decide)
        go_ret
        exact ⟨by rw [hfin.out]; rfl, HBW.out⟩
      · have hk : ¬ (F k).kind = 1 := ‹_›
        have h2 := noText hk ‹_›
        have hk2 : (F k).kind = 2 := ‹_›
        have h3 : 20 < ((V k).nk : Int) ∨ 1 < ((V k).nk : Int) := ‹_›
        have hfin : Hid (wrongVals nv F nv V = 4) := hbadv.out 4 (by rw [hx.out, val_4 ‹_› (by omega) (by omega)]) (by decide)
        go_ret
        exact ⟨by rw [hfin.out]; rfl, HBW.out⟩
      · have hk : ¬ (F k).kind = 1 := ‹_›
        have h2 := noText hk ‹_›
        have h3 : 40 < ((V k).text.size : Int) := ‹_›
        omega
      · have hk : ¬ (F k).kind = 1 := ‹_›
        have h2 := noText hk ‹_›
        have hk2 : (F k).kind = 2 := ‹_›
        have h3 : ((V k).nk : Int) ≤ 20 ∧ ((V k).nk : Int) ≤ 1 := ‹_›
        have hx2 : Hid (wrongVal (F k) (V k) = if 0 ≤ idx (V k).nk (fun i => !named ((V k).K i)) then 6 else 0) := by unfold Hid; rw [hx.out, val_x ‹_› (by omega) (by omega) (by omega)]
        clear k0 k1 k2 k3 k4 v0 v1 v2 f0 f1 f2 h2
        go_loopw [78] (fun i w3 => ∃ j : Nat, j ≤ (V k).nk ∧ i = .int .i64 j ∧ Hid (∀ i, i < j → named ((V k).K i) = true) ∧ Below W.heap.size W w3) (fun i _ => (V k).nk - (intOf i).toNat)
        case atStart => exact ⟨0, Nat.zero_le _, rfl, (fun j hj => absurd hj (Nat.not_lt_zero _)), Below.refl _ _⟩
        case round =>
          obtain ⟨j, hj, rfl, hbj, hw3⟩ := hrel
          by_cases hjlt : j < (V k).nk
          · obtain ⟨b3, o3, ha, q0, hs⟩ := (HKW.out.kept hw3).2 j hjlt
            subst ha
            have hjlt' : (j : Int) < ((V k).nk : Int) := by omega
            have hj0 : (0 : Int) ≤ (j : Int) := by omega
            have hcN := refNamed_any ((V k).K j) wr hs
            have HW3 : Hid (Below W.heap.size W wr) := hw3
            clear hw3 hs
            cases h1 : named ((V k).K j)
            · have hfin : Hid (wrongVals nv F nv V = 6) := hbadv.out 6 (by
                rw [hx2.out, if_pos]
                have : ¬ idx (V k).nk (fun i => !named ((V k).K i)) < 0 := by
                  rw [idx_neg]; intro hh; have := hh j hjlt; simp [h1] at this
                omega) (by decide)
              rw [h1] at hcN
              go_wp2_with fail
              refine hcN.mono ?_
              clear hcN
              rintro e w4 ⟨rfl, hw4⟩
              have HW4 : Hid (Below w.heap.size w w4) := (HBW.out.trans (HW3.out.mono HBW.out.size)).trans (hw4.mono (HBW.out.trans (HW3.out.mono HBW.out.size)).size)
              clear hw4 q0
              go_wp2_with fail
              go_ret
              exact ⟨by rw [hfin.out]; rfl, HW4.out⟩
            · have hq : Hid (∀ i, i < j + 1 → named ((V k).K i) = true) := fun i hi => by
                rcases Nat.lt_succ_iff_lt_or_eq.1 hi with h | h
                · exact hbj i h
                · rw [h]; exact h1
              rw [h1] at hcN
              go_wp2_with fail
              refine hcN.mono ?_
              clear hcN
              rintro e w4 ⟨rfl, hw4⟩
              have HW4 : Hid (Below W.heap.size W w4) := HW3.out.trans (hw4.mono HW3.out.size)
              clear hw4 q0
              go_wp2_with fail
              go_roundw
              case rel => exact ⟨j + 1, by omega, by go_num, hq, HW4.out⟩
              case measure => simp [intOf]; omega
          · have hq : Hid (∀ j, j < k + 1 → wrongVal (F j) (V j) = 0) := hgo.out (by
              rw [hx2.out, if_neg]
              have : idx (V k).nk (fun i => !named ((V k).K i)) < 0 := idx_neg.2 fun i hi => by rw [hbj.out i (by omega)]; rfl
              omega)
            have HW4 : Hid (Below w.heap.size w wr) := HBW.out.trans (hw3.mono HBW.out.size)
            go_wp2_with fail
            go_roundw
            case rel => exact ⟨k + 1, by omega, by go_num, hq, HW4.out⟩
            case measure => simp [intOf]; omega
      · have hk : ¬ (F k).kind = 1 := ‹¬ (F k).kind = 1›
        have h2 := noText hk ‹_›
        have h3 : 40 < ((V k).text.size : Int) := ‹_›
        omega
      · have hk : ¬ (F k).kind = 1 := ‹¬ (F k).kind = 1›
        have h2 := noText hk ‹_›
        have hk2 : ¬ (F k).kind = 2 := ‹_›
        have h3 : ((V k).nk : Int) ≤ 20 := ‹((V k).nk : Int) ≤ 20›
        have hx2 : Hid (wrongVal (F k) (V k) = if 0 ≤ idx (V k).nk (fun i => !named ((V k).K i)) then 6 else 0) := by unfold Hid; rw [hx.out, val_x ‹_› (by omega) (by omega) (by omega)]
        clear k0 k1 k2 k3 k4 v0 v1 v2 f0 f1 f2 h2
        go_loopw [78] (fun i w3 => ∃ j : Nat, j ≤ (V k).nk ∧ i = .int .i64 j ∧ Hid (∀ i, i < j → named ((V k).K i) = true) ∧ Below W.heap.size W w3) (fun i _ => (V k).nk - (intOf i).toNat)
        case atStart => exact ⟨0, Nat.zero_le _, rfl, (fun j hj => absurd hj (Nat.not_lt_zero _)), Below.refl _ _⟩
        case round =>
          obtain ⟨j, hj, rfl, hbj, hw3⟩ := hrel
          by_cases hjlt : j < (V k).nk
          · obtain ⟨b3, o3, ha, q0, hs⟩ := (HKW.out.kept hw3).2 j hjlt
            subst ha
            have hjlt' : (j : Int) < ((V k).nk : Int) := by omega
            have hj0 : (0 : Int) ≤ (j : Int) := by omega
            have hcN := refNamed_any ((V k).K j) wr hs
            have HW3 : Hid (Below W.heap.size W wr) := hw3
            clear hw3 hs
            cases h1 : named ((V k).K j)
            · have hfin : Hid (wrongVals nv F nv V = 6) := hbadv.out 6 (by
                rw [hx2.out, if_pos]
                have : ¬ idx (V k).nk (fun i => !named ((V k).K i)) < 0 := by
                  rw [idx_neg]; intro hh; have := hh j hjlt; simp [h1] at this
                omega) (by decide)
              rw [h1] at hcN
              go_wp2_with fail
              refine hcN.mono ?_
              clear hcN
              rintro e w4 ⟨rfl, hw4⟩
              have HW4 : Hid (Below w.heap.size w w4) := (HBW.out.trans (HW3.out.mono HBW.out.size)).trans (hw4.mono (HBW.out.trans (HW3.out.mono HBW.out.size)).size)
              clear hw4 q0
              go_wp2_with fail
              go_ret
              exact ⟨by rw [hfin.out]; rfl, HW4.out⟩
            · have hq : Hid (∀ i, i < j + 1 → named ((V k).K i) = true) := fun i hi => by
                rcases Nat.lt_succ_iff_lt_or_eq.1 hi with h | h
                · exact hbj i h
                · rw [h]; exact h1
              rw [h1] at hcN
              go_wp2_with fail
              refine hcN.mono ?_
              clear hcN
              rintro e w4 ⟨rfl, hw4⟩
              have HW4 : Hid (Below W.heap.size W w4) := HW3.out.trans (hw4.mono HW3.out.size)
              clear hw4 q0
              go_wp2_with fail
              go_roundw
              case rel => exact ⟨j + 1, by omega, by go_num, hq, HW4.out⟩
              case measure => simp [intOf]; omega
          · have hq : Hid (∀ j, j < k + 1 → wrongVal (F j) (V j) = 0) := hgo.out (by
              rw [hx2.out, if_neg]
              have : idx (V k).nk (fun i => !named ((V k).K i)) < 0 := idx_neg.2 fun i hi => by rw [hbj.out i (by omega)]; rfl
              omega)
            have HW4 : Hid (Below w.heap.size w wr) := HBW.out.trans (hw3.mono HBW.out.size)
            go_wp2_with fail
            go_roundw
            case rel => exact ⟨k + 1, by omega, by go_num, hq, HW4.out⟩
            case measure => simp [intOf]; omega
      · have hk : ¬ (F k).kind = 1 := ‹_›
        have h2 := noText hk ‹_›
        have h3 : 20 < ((V k).nk : Int) := ‹_›
        have hfin : Hid (wrongVals nv F nv V = 4) := hbadv.out 4 (by rw [hx.out, val_4 ‹_› (by omega) (by omega)]) (by decide)
        go_ret
        exact ⟨by rw [hfin.out]; rfl, HBW.out⟩
    · have hfin : Hid (wrongVals nv F nv V = 0) := by unfold Hid; rw [hfin0.out, fault_none fun j hj => hb.out j (by omega)]
      go_wp2_with fail
      go_ret
      exact ⟨by rw [hfin.out]; rfl, hw⟩
end Go.Proofs.Ytjjggefmmeminaa
