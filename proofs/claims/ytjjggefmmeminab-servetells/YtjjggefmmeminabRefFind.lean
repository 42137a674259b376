/-
  The contracts of stitchref1.Type, At, Has and Thing: found just where the first one is.
-/
import Derived.Test.YtjjggefmmeminabMorePlain
import Derived.Test.YtjjggefmmeminabVals
namespace Go.Proofs.Ytjjggefmmeminab
open Go.RowKit Go.Sort Go.PlainAid

/-- A pointer to the type that find tells, or nil. -/
def typePtr (a : Option Addr) (n : Nat) (T : Nat → LType) (name : ByteArray) : Value :=
  if find n T name < 0 then .pointer none else .pointer (a.map fun ad => ⟨ad.block, ad.off + (find n T name).toNat * 2, none⟩)
theorem typePtr_none {a : Option Addr} {n : Nat} {T : Nat → LType} {name : ByteArray} (h : find n T name < 0) : typePtr a n T name = .pointer none := by unfold typePtr; rw [if_pos h]
theorem typePtr_some {b o n t : Nat} {T : Nat → LType} {name : ByteArray} (h : find n T name = (t : Int)) : typePtr (some ⟨b, o, none⟩) n T name = .pointer (some ⟨b, o + t * 2, none⟩) := by
  unfold typePtr; rw [h, if_neg (by omega), Int.toNat_natCast]; rfl

set_option maxHeartbeats 1000000 in
theorem refType_any (a : Option Addr) (n cap : Nat) (T : Nat → LType) (name : ByteArray) (w : World) (hT : TypesAt w a n T) :
    Calls Try.prog 45 #[.slice a n cap, .string name] w fun e w' => e = .returned (typePtr a n T name) ∧ Below w.heap.size w w' := by
  have hn : n ≤ 9223372036854775807 := hT.1
  have HT : Hid (TypesAt w a n T) := hT
  clear hT
  go_enter Try.func45, Try.ntmps45
  go_wp2_with fail
  go_loop [8] (fun i => ∃ k : Nat, k ≤ n ∧ i = .int .i64 k ∧ Hid (∀ j, j < k → eqs (T j).name name = false)) (fun i => n - (intOf i).toNat)
  case atStart => exact ⟨0, Nat.zero_le _, rfl, (fun j hj => absurd hj (Nat.not_lt_zero _))⟩
  case round =>
    obtain ⟨k, hk, rfl, hb⟩ := hrel
    by_cases hlt : k < n
    · obtain ⟨b, o, ha, hc, -⟩ := HT.out.2 k hlt
      subst ha
      have hlt' : (k : Int) < (n : Int) := by omega
      have hk0 : (0 : Int) ≤ (k : Int) := by omega
      cases he : ((T k).name.toList == name.toList)
      · have hb2 : Hid (∀ j, j < k + 1 → eqs (T j).name name = false) := fun j hj => by
          rcases Nat.lt_succ_iff_lt_or_eq.1 hj with h | h
          · exact hb j h
          · rw [h, ← eqs_eq]; exact he
        go_wp2_with fail
        go_round
        case rel => exact ⟨k + 1, by omega, by go_num, hb2⟩
        case measure => simp [intOf]; omega
      · have hq : Hid (typePtr (some ⟨b, o, none⟩) n T name = .pointer (some ⟨b, o + k * 2, none⟩)) := typePtr_some (idx_hit hlt (by show eqs (T k).name name = true; rw [← eqs_eq]; exact he) hb.out)
        go_wp2_with fail
        go_ret
        exact ⟨by rw [hq.out]; rfl, Below.refl _ _⟩
    · have hq : Hid (typePtr a n T name = .pointer none) := typePtr_none (show idx _ _ < 0 from idx_neg.2 (fun j hj => hb.out j (by omega)))
      go_wp2_with fail
      go_ret
      exact ⟨by rw [hq.out]; rfl, Below.refl _ _⟩

set_option maxHeartbeats 1000000 in
theorem refAt_any (a : Option Addr) (n cap : Nat) (F : Nat → LField) (name : ByteArray) (w : World) (hF : FieldsAt w a n F) :
    Calls Try.prog 76 #[.slice a n cap, .string name] w fun e w' => e = .returned (.int .i64 (fieldIdx n F name)) ∧ Below w.heap.size w w' := by
  have hn : n ≤ 9223372036854775807 := hF.1
  have HF : Hid (FieldsAt w a n F) := hF
  clear hF
  go_enter Try.func76, Try.ntmps76
  go_wp2_with fail
  go_loopw [9] (fun i wr => ∃ k : Nat, k ≤ n ∧ i = .int .i64 k ∧ Hid (∀ j, j < k → eqs (F j).name name = false) ∧ Below w.heap.size w wr) (fun i _ => n - (intOf i).toNat)
  case atStart => exact ⟨0, Nat.zero_le _, rfl, (fun j hj => absurd hj (Nat.not_lt_zero _)), Below.refl _ _⟩
  case round =>
    obtain ⟨k, hk, rfl, hb, hw⟩ := hrel
    by_cases hlt : k < n
    · obtain ⟨b, o, ha, hc0, hc1, hc2, -⟩ := (HF.out.kept hw).2 k hlt
      subst ha
      have hlt' : (k : Int) < (n : Int) := by omega
      have hk0 : (0 : Int) ≤ (k : Int) := by omega
      cases he : ((F k).name.toList == name.toList)
      · have hb2 : Hid (∀ j, j < k + 1 → eqs (F j).name name = false) := fun j hj => by
          rcases Nat.lt_succ_iff_lt_or_eq.1 hj with h | h
          · exact hb j h
          · rw [h, ← eqs_eq]; exact he
        go_wp2_with fail
        go_roundw
        case rel => exact ⟨k + 1, by omega, by go_num, hb2, hw.trans ((below1 wr _).mono hw.size)⟩
        case measure => simp [intOf]; omega
      · have hq : Hid (fieldIdx n F name = (k : Int)) := idx_hit hlt (by show eqs (F k).name name = true; rw [← eqs_eq]; exact he) hb.out
        go_wp2_with fail
        go_ret
        exact ⟨by rw [hq.out]; rfl, hw.trans ((below1 wr _).mono hw.size)⟩
    · have hq : Hid (fieldIdx n F name = -1) := idx_none (fun j hj => hb.out j (by omega))
      go_wp2_with fail
      go_ret
      exact ⟨by rw [hq.out]; rfl, hw⟩

set_option maxHeartbeats 400000 in
theorem refHas_any (a : Option Addr) (n cap : Nat) (F : Nat → LField) (name : ByteArray) (w : World) (hF : FieldsAt w a n F) :
    Calls Try.prog 46 #[.slice a n cap, .string name] w fun e w' => e = .returned (.bool (decide (0 ≤ fieldIdx n F name))) ∧ Below w.heap.size w w' := by
  have hc := refAt_any a n cap F name w hF
  clear hF
  go_enter Try.func46, Try.ntmps46
  go_wp2_with fail
  refine hc.mono ?_
  rintro e w1 ⟨rfl, hw1⟩
  go_wp2_with fail
  go_ret
  exact ⟨rfl, hw1⟩

/-- A pointer to the thing of that type and key, or nil. -/
def thingPtr (a : Option Addr) (n : Nat) (X : Nat → LThing) (typ key : ByteArray) : Value :=
  if idx n (sameThing X typ key) < 0 then .pointer none else .pointer (a.map fun ad => ⟨ad.block, ad.off + (idx n (sameThing X typ key)).toNat * 3, none⟩)
theorem thingPtr_none {a : Option Addr} {n : Nat} {X : Nat → LThing} {typ key : ByteArray} (h : idx n (sameThing X typ key) < 0) : thingPtr a n X typ key = .pointer none := by unfold thingPtr; rw [if_pos h]
theorem thingPtr_some {b o n t : Nat} {X : Nat → LThing} {typ key : ByteArray} (h : idx n (sameThing X typ key) = (t : Int)) : thingPtr (some ⟨b, o, none⟩) n X typ key = .pointer (some ⟨b, o + t * 3, none⟩) := by
  unfold thingPtr; rw [h, if_neg (by omega), Int.toNat_natCast]; rfl

set_option maxHeartbeats 1000000 in
theorem refThing_any (a : Option Addr) (n cap : Nat) (X : Nat → LThing) (typ key : ByteArray) (w : World) (hX : ThingsAt w a n X) :
    Calls Try.prog 40 #[.slice a n cap, .string typ, .string key] w fun e w' => e = .returned (thingPtr a n X typ key) ∧ Below w.heap.size w w' := by
  have hn : n ≤ 9223372036854775807 := hX.1
  have HX : Hid (ThingsAt w a n X) := hX
  clear hX
  go_enter Try.func40, Try.ntmps40
  go_wp2_with fail
  go_loop [10] (fun i => ∃ k : Nat, k ≤ n ∧ i = .int .i64 k ∧ Hid (∀ j, j < k → sameThing X typ key j = false)) (fun i => n - (intOf i).toNat)
  case atStart => exact ⟨0, Nat.zero_le _, rfl, (fun j hj => absurd hj (Nat.not_lt_zero _))⟩
  case round =>
    obtain ⟨k, hk, rfl, hb⟩ := hrel
    by_cases hlt : k < n
    · obtain ⟨b, o, ha, hc, hc1, -⟩ := HX.out.2 k hlt
      subst ha
      have hlt' : (k : Int) < (n : Int) := by omega
      have hk0 : (0 : Int) ≤ (k : Int) := by omega
      have hb2 : Hid (sameThing X typ key k = false → ∀ j, j < k + 1 → sameThing X typ key j = false) := fun h0 j hj => by
        rcases Nat.lt_succ_iff_lt_or_eq.1 hj with h | h
        · exact hb j h
        · rw [h]; exact h0
      have hst : Hid (sameThing X typ key k = (((X k).type.toList == typ.toList) && ((X k).key.toList == key.toList))) := by unfold Hid sameThing; rw [eqs_eq, eqs_eq]
      cases he : ((X k).type.toList == typ.toList)
      · have hb3 : Hid (∀ j, j < k + 1 → sameThing X typ key j = false) := hb2.out (by rw [hst.out, he]; rfl)
        go_wp2_with fail
        go_round
        case rel => exact ⟨k + 1, by omega, by go_num, hb3⟩
        case measure => simp [intOf]; omega
      · cases he2 : ((X k).key.toList == key.toList)
        · have hb3 : Hid (∀ j, j < k + 1 → sameThing X typ key j = false) := hb2.out (by rw [hst.out, he2, Bool.and_false])
          go_wp2_with fail
          go_round
          case rel => exact ⟨k + 1, by omega, by go_num, hb3⟩
          case measure => simp [intOf]; omega
        · have hq : Hid (thingPtr (some ⟨b, o, none⟩) n X typ key = .pointer (some ⟨b, o + k * 3, none⟩)) := thingPtr_some (idx_hit hlt (by rw [hst.out, he, he2]; rfl) hb.out)
          go_wp2_with fail
          go_ret
          exact ⟨by rw [hq.out]; rfl, Below.refl _ _⟩
    · have hq : Hid (thingPtr a n X typ key = .pointer none) := thingPtr_none (idx_neg.2 (fun j hj => hb.out j (by omega)))
      go_wp2_with fail
      go_ret
      exact ⟨by rw [hq.out]; rfl, Below.refl _ _⟩
end Go.Proofs.Ytjjggefmmeminab
