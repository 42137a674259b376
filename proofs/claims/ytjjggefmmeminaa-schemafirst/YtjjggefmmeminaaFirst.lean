/-
  The walk of stitchlaw1.SchemaFirst: it answers true, and keeps what is there.
-/
import Derived.Test.YtjjggefmmeminaaAlive
namespace Go.Proofs.Ytjjggefmmeminaa
open Go.RowKit Go.Sort Go.PlainAid

theorem wrongThings_le {n m : Nat} {T : Nat → LType} {X : Nat → LThing} (h : m ≤ 60) : wrongThings n T m X = fault m (wrongThing n T X) := by unfold wrongThings; rw [if_neg (by omega)]
theorem first_ok {n m k : Nat} {T : Nat → LType} {X : Nat → LThing} (h : m ≤ 60) (hk : k ≤ m) (h0 : ∀ j, j < k → wrongThing n T X j = 0) : wrongThings n T k X = (0, 0) := by
  rw [wrongThings_le (by omega)]; exact fault_none h0

set_option maxHeartbeats 1000000 in
theorem first_any (a xa : Option Addr) (n cap m xcap : Nat) (T : Nat → LType) (X : Nat → LThing) (k : Int) (w : World) (hT : TypesAt w a n T) (hX : ThingsAt w xa m X) (hcap : n ≤ cap) (hxcap : m ≤ xcap) :
    Calls Try.prog 4 #[.slice a n cap, .slice xa m xcap, .int .i64 k] w fun e w' => e = .returned (.bool true) ∧ Below w.heap.size w w' := by
  have hfd := field0_run
  have hm : m ≤ 9223372036854775807 := hX.1
  have HT : Hid (TypesAt w a n T) := hT
  have HX : Hid (ThingsAt w xa m X) := hX
  clear hT hX
  go_enter Try.func4, Try.ntmps4
  go_wp2_with fail
  refine (alive_any w).mono ?_
  rintro e w1 ⟨rfl, hB1⟩
  go_wp2_with fail
  refine (wrong_any a n cap T w1 (HT.out.kept hB1) hcap).mono ?_
  rintro e w2 ⟨rfl, hw2⟩
  have hB2 := hB1.trans (hw2.mono hB1.size)
  clear hw2 hB1
  unfold faultV
  by_cases h1 : (wrongS n T).1 = 0
  case neg =>
    have h1b : ((wrongS n T).1 != 0) = true := by simpa using h1
    clear h1
    generalize wrongS n T = r at *
    go_wp2_with fail
    go_ret
    exact ⟨rfl, hB2⟩
  have h1b : ((wrongS n T).1 != 0) = false := by simpa using h1
  clear h1
  generalize wrongS n T = r at *
  by_cases h2 : 60 < (m : Int)
  · go_wp2_with fail
    go_ret
    exact ⟨rfl, hB2⟩
  have hm60 : m ≤ 60 := by omega
  go_wp2_with fail
  refine (things_any a xa n cap m xcap T X w2 (HT.out.kept hB2) (HX.out.kept hB2) hxcap).mono ?_
  rintro e w3 ⟨rfl, hw3⟩
  have hB3 := hB2.trans (hw3.mono hB2.size)
  clear hw3 hB2
  have hcall : Hid (∀ (j : Nat) (w4 : World), j ≤ m → (∀ i, i < j → wrongThing n T X i = 0) → Below w3.heap.size w3 w4 → Calls Try.prog 23 #[.slice a n cap, .slice xa j xcap] w4 fun e w' => e = .returned (.agg #[.int .i64 0, .int .i64 0]) ∧ Below w.heap.size w w') := by
    intro j w4 hj h0 hw4
    have hB4 := hB3.trans (hw4.mono hB3.size)
    have hc := things_any a xa n cap j xcap T X w4 (HT.out.kept hB4) ((HX.out.less hj).kept hB4) (by omega)
    rw [first_ok hm60 hj h0] at hc
    exact hc.mono fun e w' ⟨he, hw'⟩ => ⟨he, hB4.trans (hw'.mono hB4.size)⟩
  have hf := wrongThings_le (n := n) (T := T) (X := X) hm60
  rcases fault_cases m (wrongThing n T X) with ⟨e1, e2⟩ | ⟨t, ht, e1, e2, e3⟩
  · rw [hf, e1]
    clear hf e1
    unfold faultV
    by_cases hk0 : k < 0
    · go_wp2_with fail
      go_ret
      exact ⟨rfl, hB3.trans ((below1 w3 _).mono hB3.size)⟩
    by_cases hk1 : (m : Int) < k
    · go_wp2_with fail
      go_ret
      exact ⟨rfl, hB3.trans ((below1 w3 _).mono hB3.size)⟩
    obtain ⟨j, rfl⟩ := Int.eq_ofNat_of_zero_le (by omega : 0 ≤ k)
    have E2 : Hid (∀ j, j < m → wrongThing n T X j = 0) := e2
    clear e2
    have hjm : (j : Int) ≤ (m : Int) := by omega
    have hjc : (j : Int) ≤ (xcap : Int) := by omega
    go_wp2_with fail
    refine (hcall.out j _ (by omega) (fun i hi => E2.out i (by omega)) (below1 w3 _)).mono ?_
    rintro e w5 ⟨rfl, hB5⟩
    go_wp2_with fail
    go_ret
    exact ⟨rfl, hB5⟩
  · rw [hf, e1]
    clear hf e1
    unfold faultV
    have E3 : Hid (∀ j, j < t → wrongThing n T X j = 0) := e3
    have e2b : (wrongThing n T X t != 0) = true := by simpa using e2
    clear e2 e3
    generalize wrongThing n T X t = z at *
    have hjm : (t : Int) ≤ (m : Int) := by omega
    have hjc : (t : Int) ≤ (xcap : Int) := by omega
    go_wp2_with fail
    refine (hcall.out t _ (by omega) (fun i hi => E3.out i hi) (below1 w3 _)).mono ?_
    rintro e w5 ⟨rfl, hB5⟩
    go_wp2_with fail
    go_ret
    exact ⟨rfl, hB5⟩
end Go.Proofs.Ytjjggefmmeminaa
