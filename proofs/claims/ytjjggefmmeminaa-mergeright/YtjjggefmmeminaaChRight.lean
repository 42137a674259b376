import Derived.Test.YtjjggefmmeminaaChAlive
import Derived.Test.YtjjggefmmeminaaJPl
import Derived.Test.YtjjggefmmeminaaChTypes
/-
  The walk of stitchlaw2.ChangeRight: it answers true, and keeps what is there.
-/
namespace Go.Proofs.Ytjjggefmmeminaa
open Go.RowKit Go.Sort

theorem types_right {n : Nat} {T : Nat → LType} {S : Nat → PSeen} (h : RightS n S) (hT : TypesAre n T S) : (wrongS n T).1 = 0 := by
  rw [right_iff]
  have hN : ∀ i, i < n → (T i).name = (S i).name := fun i hi => (hT i hi).1
  refine ⟨h.few, fun i hi => by show named (T i).name = true; rw [hN i hi]; exact h.nam i hi, fun i j hij hj => by show (T i).name ≠ (T j).name; rw [hN i (by omega), hN j hj]; exact h.one i j hij hj, fun i hi => ?_⟩
  obtain ⟨-, h2, h3⟩ := hT i hi
  have hf := h.fld i hi
  show RightF n (fun i => (T i).name) (T i).nf (T i).F
  rw [h2, h3]
  refine ⟨hf.few, hf.nam, hf.one, fun j hj => ?_⟩
  rcases hf.fit j hj with q | ⟨q, k, hk, e⟩
  · exact .inl q
  · exact .inr ⟨q, k, hk, (hN k hk).trans e⟩

set_option maxRecDepth 100000 in
set_option maxHeartbeats 2000000 in
theorem right_any (a ca : Option Addr) (n cap m ccap : Nat) (T : Nat → LType) (C : Nat → PChange) (w : World) (hT : TypesAt w a n T) (hC : ChangesAt w ca m C) (hcap : n ≤ cap) :
    Calls Try.prog 7 #[.slice a n cap, .slice ca m ccap] w fun e w' => e = .returned (.bool true) ∧ Below w.heap.size w w' := by
  have hfd := field0_run
  have HT : Hid (TypesAt w a n T) := hT
  have HC : Hid (ChangesAt w ca m C) := hC
  clear hT hC
  go_enter Try.func7, Try.ntmps7
  go_wp2_with fail
  refine (alive2_any w).mono ?_
  rintro e w1 ⟨rfl, hB1⟩
  go_wp2_with fail
  refine (see_any a ca n cap m ccap T C w1 (HT.out.kept hB1) (HC.out.kept hB1) hcap).mono ?_
  rintro e w2 ⟨⟨v, rfl, hno, hyes⟩, hw2⟩
  have hB2 := hB1.trans (hw2.mono hB1.size)
  have HB2 : Hid (Below w.heap.size w w2) := hB2
  clear hw2 hB1 hB2
  unfold faultV
  by_cases h1 : (seeF n T m C).1 = 0
  case neg =>
    have h1b : ((seeF n T m C).1 != 0) = true := by simpa using h1
    have hv := hno h1
    subst hv
    clear h1 hno hyes
    generalize seeF n T m C = r at *
    go_wp2_with fail
    go_ret
    exact ⟨rfl, HB2.out.trans ((below1 w2 _).mono HB2.out.size)⟩
  have h1b : ((seeF n T m C).1 != 0) = false := by simpa using h1
  obtain ⟨fv, ov, hS⟩ := hyes h1
  have hRS : RightS n (runS n (initS T) C m) := right_run (seeF_right h1) m
  have HRS : Hid (RightS n (runS n (initS T) C m)) := hRS
  have HOWN : Hid (∀ i, (runS n (initS T) C m i).own = (T i).name ∧ (runS n (initS T) C m i).nf ≤ (T i).nf) := fun i => run_own i m
  clear h1 hno hyes
  generalize seeF n T m C = r at *
  generalize runS n (initS T) C m = S at *
  have hn8 : n ≤ 8 := hRS.few
  have hnf : ∀ i, i < n → (S i).nf ≤ 1000 := fun i hi => by have := (hRS.fld i hi).few; omega
  obtain ⟨va, vc, rfl, hvc⟩ := hS.slice
  generalize hW : w2.alloc (Obj.cells #[.int .i64 r.1, .int .i64 r.2] 30) = W
  have hBW : Below w2.heap.size w2 W := by rw [← hW]; exact below1 _ _
  have k0 : W.cell? ⟨w2.heap.size, 0, none⟩ = some (.int .i64 r.1) := by rw [← hW, World.cell?_alloc_at _ _ _ _ rfl]; rfl
  have HBW : Hid (Below w.heap.size w W) := HB2.out.trans (hBW.mono HB2.out.size)
  have HSW : Hid (Seens W w1.heap.size (.slice va n vc) n fv ov S) := hS.kept hBW
  have hcl := types_any _ n _ fv ov S W HSW.out (by omega) hnf
  clear hS hBW hRS hnf HB2
  go_wp2_with fail
  clear hW
  refine hcl.mono ?_
  clear hcl
  rintro e w3 ⟨⟨ta, tc, T', rfl, htc, hT', hTA⟩, hw3⟩
  have HB3 : Hid (Below w.heap.size w w3) := HBW.out.trans (hw3.mono HBW.out.size)
  have HS3 : Hid (Seens w3 w1.heap.size (.slice va n vc) n fv ov S) := HSW.out.kept hw3
  have hw0 : (wrongS n T').1 = 0 := types_right HRS.out hTA
  have hcl := wrong_any ta n tc T' w3 hT' htc
  clear hT' hTA hw3 HSW HBW k0
  generalize wrongS n T' = r' at *
  have hw0b : (r'.1 != 0) = false := by simpa using hw0
  clear hw0
  unfold faultV at hcl
  go_wp2_with fail
  refine hcl.mono ?_
  clear hcl
  rintro e w4 ⟨rfl, hw4⟩
  have HB4 : Hid (Below w.heap.size w w4) := HB3.out.trans (hw4.mono HB3.out.size)
  have HS4 : Hid (Seens w4 w1.heap.size (.slice va n vc) n fv ov S) := HS3.out.kept hw4
  clear hw4 HB3 HS3
  go_wp2_with fail
  go_loopw [36] (fun i wr => ∃ k : Nat, k ≤ n ∧ i = .int .i64 k ∧ Below w4.heap.size w4 wr) (fun i _ => n - (intOf i).toNat)
  case atStart => exact ⟨0, Nat.zero_le _, rfl, Below.refl _ _⟩
  case round =>
    obtain ⟨k, hk, rfl, hw⟩ := hrel
    by_cases hlt : k < n
    · have hSr := HS4.out.kept hw
      obtain ⟨g, cap', hv, -, -⟩ := hSr.ptr hlt
      cases hv
      obtain ⟨q0, q1, q2, q3⟩ := hSr.cells hlt
      obtain ⟨a1, c1, e1, -⟩ := (hSr.fields k hlt).slice
      obtain ⟨a2, c2, e2, -⟩ := (hSr.owns k hlt).slice
      rw [e1] at q1
      rw [e2] at q3
      obtain ⟨o1, o2⟩ := HOWN.out k
      rw [o1] at q2
      obtain ⟨b, o, rfl, t0, t1, -⟩ := ((HT.out.kept HB4.out).kept hw).2 k hlt
      have hlt' : (k : Int) < (n : Int) := by omega
      have hk0 : (0 : Int) ≤ (k : Int) := by omega
      have hle : decide (((T k).nf : Int) < ((S k).nf : Int)) = false := by simp; omega
      have hle2 : ((S k).nf : Int) ≤ ((T k).nf : Int) := by omega
      have hle3 : ¬ (T k).nf < (S k).nf := by omega
      have HW : Hid (Below w4.heap.size w4 wr) := hw
      clear hSr e1 e2 o1 o2 hw
      go_wp2_with fail
      go_quiet (fail)
      go_wp2_with fail
      go_roundw
      case rel => exact ⟨k + 1, by omega, by go_num, HW.out.trans ((below_drewN wr _).mono HW.out.size)⟩
      case measure => simp [intOf]; omega
    · have HW : Hid (Below w4.heap.size w4 wr) := hw
      clear hw
      go_wp2_with fail
      go_ret
      exact ⟨rfl, HB4.out.trans (HW.out.mono HB4.out.size)⟩
end Go.Proofs.Ytjjggefmmeminaa
