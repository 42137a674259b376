/-
  The contracts of schema.wrongFields and schema.Wrong.
-/
import Derived.Test.YtjjggefmmeminabWrong
namespace Go.Proofs.Ytjjggefmmeminab
open Go.RowKit Go.Sort Go.PlainAid

theorem Try.e118 : ∀ args w, (callFunc 118 args).run Try.prog w = .ok (.enter 118 args) w := enters_of Try.func118 (by kernel_rfl) rfl
theorem Try.e120 : ∀ args w, (callFunc 120 args).run Try.prog w = .ok (.enter 120 args) w := enters_of Try.func120 (by kernel_rfl) rfl
theorem Try.e144 : ∀ args w, (callFunc 144 args).run Try.prog w = .ok (.enter 144 args) w := enters_of Try.func144 (by kernel_rfl) rfl

/-- What is wrong with a type's fields. -/
def wrongFields (n : Nat) (T : Nat → LType) (nf : Nat) (F : Nat → LField) : Int := if 10 < nf then 4 else (fault nf (wrongField n T F)).1
/-- What is wrong with a schema, and with which of its types. -/
def wrongS (n : Nat) (T : Nat → LType) : Int × Int :=
  if 8 < n then (4, 0) else if (fault n (wrongTypeName T)).1 ≠ 0 then fault n (wrongTypeName T) else fault n (fun i => wrongFields n T (T i).nf (T i).F)

theorem field0_run (x y : Int) : ∀ w : World, (Instr.field 30 (.agg #[.int .i64 x, .int .i64 y]) 0).run Try.prog w = .ok (.int .i64 x) w := fun _ => by kernel_rfl
theorem field1_run (x y : Int) : ∀ w : World, (Instr.field 30 (.agg #[.int .i64 x, .int .i64 y]) 1).run Try.prog w = .ok (.int .i64 y) w := fun _ => by kernel_rfl

set_option maxHeartbeats 400000 in
theorem wrongFields1_any (a fa : Option Addr) (n cap nf fcap i b1 b2 : Nat) (T : Nat → LType) (F : Nat → LField) (w : World) (hT : TypesAt w a n T) (hF : FieldsAt w fa nf F) (hcap : nf ≤ fcap) (hi : i < nf)
    (c1 : w.cell? ⟨b1, 0, none⟩ = some (.slice a n cap)) (c2 : w.cell? ⟨b2, 0, none⟩ = some (.slice fa nf fcap)) :
    Calls Try.prog 144 #[.int .i64 (i : Int), .pointer (some ⟨b1, 0, none⟩), .pointer (some ⟨b2, 0, none⟩)] w fun e w' => e = .returned (.int .i64 (wrongField n T F i)) ∧ Below w.heap.size w w' := by
  have hc := wrongField_any a fa n cap nf fcap i T F w hT hF hcap hi
  clear hT hF
  go_enter Try.func144, Try.ntmps144
  go_wp2_with fail
  refine hc.mono ?_
  rintro e w1 ⟨rfl, hw1⟩
  go_wp2_with fail
  go_ret
  exact ⟨rfl, hw1⟩

set_option maxHeartbeats 400000 in
theorem wrongFields_any (a fa : Option Addr) (n cap nf fcap : Nat) (T : Nat → LType) (F : Nat → LField) (w : World) (hT : TypesAt w a n T) (hF : FieldsAt w fa nf F) (hcap : nf ≤ fcap) :
    Calls Try.prog 121 #[.slice a n cap, .slice fa nf fcap] w fun e w' => e = .returned (.int .i64 (wrongFields n T nf F)) ∧ Below w.heap.size w w' := by
  have hmf : ∀ (fn : Fn) (first cap : Array Value) (w : World), (Instr.makeFunc fn first cap).run Try.prog w = .ok (.func fn first cap) w := fun _ _ _ _ => rfl
  have hnf : nf ≤ 9223372036854775807 := hF.1
  have HT : Hid (TypesAt w a n T) := hT
  have HF : Hid (FieldsAt w fa nf F) := hF
  clear hT hF
  by_cases h : 10 < (nf : Int)
  · have hfin : Hid (wrongFields n T nf F = 4) := by unfold wrongFields Hid; rw [if_pos (by omega)]
    go_enter Try.func121, Try.ntmps121
    go_wp2_with fail
    go_ret
    exact ⟨by rw [hfin.out]; rfl, below2 _ _ _⟩
  · have hfin : Hid (wrongFields n T nf F = (fault nf (wrongField n T F)).1) := by unfold wrongFields Hid; rw [if_neg (by omega)]
    go_enter Try.func121, Try.ntmps121
    go_wp2_with fail
    refine (firstFault_any nf hnf 144 _ (wrongField n T F) _ Try.e144 ?_).mono ?_
    · intro i hi w1 hw1
      have hb := (below2 w (.cells #[.slice a n cap] 70) (.cells #[.slice fa nf fcap] 97)).trans (hw1.mono (below2 w _ _).size)
      refine wrongFields1_any a fa n cap nf fcap i _ _ T F w1 (HT.out.kept hb) (HF.out.kept hb) hcap hi (keptCell hw1 ?_) (keptCell hw1 ?_)
      · rw [World.cell?_alloc_past _ _ _ (by simp), World.cell?_alloc_at _ _ _ _ rfl]; rfl
      · rw [World.cell?_alloc_at _ _ _ _ (by simp)]; rfl
    · rintro e w1 ⟨rfl, hw1⟩
      unfold faultV
      have hfd := field0_run (fault nf (wrongField n T F)).1 (fault nf (wrongField n T F)).2
      go_wp2_with fail
      go_ret
      exact ⟨by rw [hfin.out]; rfl, (below2 w _ _).trans (hw1.mono (below2 w _ _).size)⟩

set_option maxHeartbeats 400000 in
theorem wrong1_any (a : Option Addr) (n cap i b1 : Nat) (T : Nat → LType) (w : World) (hT : TypesAt w a n T) (hcap : n ≤ cap) (hi : i < n)
    (c1 : w.cell? ⟨b1, 0, none⟩ = some (.slice a n cap)) :
    Calls Try.prog 118 #[.int .i64 (i : Int), .pointer (some ⟨b1, 0, none⟩)] w fun e w' => e = .returned (.int .i64 (wrongTypeName T i)) ∧ Below w.heap.size w w' := by
  have hc := wrongTypeName_any a n cap i T w hT hcap hi
  clear hT
  go_enter Try.func118, Try.ntmps118
  go_wp2_with fail
  refine hc.mono ?_
  rintro e w1 ⟨rfl, hw1⟩
  go_wp2_with fail
  go_ret
  exact ⟨rfl, hw1⟩

set_option maxHeartbeats 400000 in
theorem wrong2_any (a : Option Addr) (n cap i b1 : Nat) (T : Nat → LType) (w : World) (hT : TypesAt w a n T) (hi : i < n)
    (c1 : w.cell? ⟨b1, 0, none⟩ = some (.slice a n cap)) :
    Calls Try.prog 120 #[.int .i64 (i : Int), .pointer (some ⟨b1, 0, none⟩)] w fun e w' => e = .returned (.int .i64 (wrongFields n T (T i).nf (T i).F)) ∧ Below w.heap.size w w' := by
  have hn : n ≤ 9223372036854775807 := hT.1
  obtain ⟨b, o, rfl, -, hc1, hcap, -, hF⟩ := hT.2 i hi
  have k0 := cell_regrown c1
  have k1 := cell_regrown hc1
  have cF : ∀ d os, Calls Try.prog 121 #[.slice (some ⟨b, o, none⟩) n cap, .slice (T i).fa (T i).nf (T i).fcap] (grow (redrawn w d) os) fun e w'' => e = .returned (.int .i64 (wrongFields n T (T i).nf (T i).F)) ∧ ∃ p : Regrown, w'' = grow (redrawn w p.d) p.os := fun d os => Calls.regrown_of (wrongFields_any _ _ _ _ _ _ T (T i).F _ (hT.kept (below_regrown w d os)) (hF.kept (below_regrown w d os)) hcap)
  clear hT hF hc1 hcap
  have hi' : (i : Int) < (n : Int) := by omega
  have hi0 : (0 : Int) ≤ (i : Int) := by omega
  go_enter Try.func120, Try.ntmps120
  go_wp2
  refine wp_region_quiet_below (by kernel_rfl) (by kernel_rfl) ?_
  repeat (go_big_quiet_step (first | exact cF _ _))
  refine wpQuiet_nil ?_
  intro _ hw'
  obtain ⟨⟨dq, osq⟩, hw''⟩ := hw'
  subst hw''
  go_wp2
  go_ret
  exact ⟨rfl, below_regrown w dq osq⟩

theorem below3 (w : World) (o o' o'' : Obj) : Below w.heap.size w (((w.alloc o).alloc o').alloc o'') := (below2 w o o').alloc (by simp; omega) o''

set_option maxHeartbeats 400000 in
theorem wrong_any (a : Option Addr) (n cap : Nat) (T : Nat → LType) (w : World) (hT : TypesAt w a n T) (hcap : n ≤ cap) :
    Calls Try.prog 99 #[.slice a n cap] w fun e w' => e = .returned (faultV (wrongS n T)) ∧ Below w.heap.size w w' := by
  have hmf : ∀ (fn : Fn) (first cap : Array Value) (w : World), (Instr.makeFunc fn first cap).run Try.prog w = .ok (.func fn first cap) w := fun _ _ _ _ => rfl
  have hn : n ≤ 9223372036854775807 := hT.1
  have HT : Hid (TypesAt w a n T) := hT
  clear hT
  by_cases h : 8 < (n : Int)
  · have hfin : Hid (wrongS n T = (4, 0)) := by unfold wrongS Hid; rw [if_pos (by omega)]
    go_enter Try.func99, Try.ntmps99
    go_wp2_with fail
    exact bodyPost_ret (v := .agg #[.int .i64 4, .int .i64 0]) (by simp [results, Try.results99, go_sem]) rfl ⟨by rw [hfin.out]; rfl, below2 _ _ _⟩
  · have hlt : ¬ 8 < n := by omega
    have hfin1 : Hid ((fault n (wrongTypeName T)).1 ≠ 0 → wrongS n T = fault n (wrongTypeName T)) := fun h0 => by unfold wrongS; rw [if_neg hlt, if_pos h0]
    have hfin2 : Hid ((fault n (wrongTypeName T)).1 = 0 → wrongS n T = fault n (fun i => wrongFields n T (T i).nf (T i).F)) := fun h0 => by unfold wrongS; rw [if_neg hlt, if_neg (by omega)]
    clear hlt
    go_enter Try.func99, Try.ntmps99
    go_wp2_with fail
    generalize hW : ((w.alloc (Obj.cells #[Value.slice a n cap] 70)).alloc (Obj.cells #[Value.int IntKind.i64 0, Value.int IntKind.i64 0] 30)) = W
    have hB : Below w.heap.size w W := by rw [← hW]; exact below2 _ _ _
    have hz : w.heap.size + 1 < W.heap.size := by rw [← hW]; simp
    have c0 : W.cell? ⟨w.heap.size, 0, none⟩ = some (.slice a n cap) := by rw [← hW, World.cell?_alloc_past _ _ _ (by simp), World.cell?_alloc_at _ _ _ _ rfl]; rfl
    have r0 : W.cell? ⟨w.heap.size + 1, 0, none⟩ = some (.int .i64 0) := by rw [← hW, World.cell?_alloc_at _ _ _ _ (by simp)]; rfl
    have r1 : W.cell? ⟨w.heap.size + 1, 1, none⟩ = some (.int .i64 0) := by rw [← hW, World.cell?_alloc_at _ _ _ _ (by simp)]; rfl
    have f0 : W.frozen? ⟨w.heap.size + 1, 0, none⟩ = false := by rw [← hW]; exact World.frozen?_alloc_at _ _ _ _ (by simp)
    have f1 : W.frozen? ⟨w.heap.size + 1, 1, none⟩ = false := by rw [← hW]; exact World.frozen?_alloc_at _ _ _ _ (by simp)
    clear hW
    refine (firstFault_any n hn 118 _ (wrongTypeName T) _ Try.e118 ?_).mono ?_
    · intro i hi w1 hw1
      exact wrong1_any a n cap i _ T w1 (HT.out.kept (hB.trans (hw1.mono hB.size))) hcap hi (keptCell hw1 c0)
    rintro e w1 ⟨rfl, hw1⟩
    have hB1 : Below w.heap.size w w1 := hB.trans (hw1.mono hB.size)
    have hz1 : w.heap.size + 1 < w1.heap.size := Nat.lt_of_lt_of_le hz hw1.size
    have hz0 : w.heap.size < w1.heap.size := by omega
    have d0 := keptCell hw1 c0
    have s0 := keptCell hw1 r0
    have s1 := keptCell hw1 r1
    have g0 := (hw1.frozen (p := ⟨w.heap.size + 1, 0, none⟩) hz).trans f0
    have g1 := (hw1.frozen (p := ⟨w.heap.size + 1, 1, none⟩) hz).trans f1
    clear hw1 c0 r0 r1 f0 f1 hz hB
    unfold faultV
    by_cases h0 : (fault n (wrongTypeName T)).1 = 0
    · have hb0 : ((fault n (wrongTypeName T)).1 != 0) = false := by simpa using h0
      have hfin : Hid (wrongS n T = fault n (fun i => wrongFields n T (T i).nf (T i).F)) := hfin2.out h0
      clear h0
      go_wp2_with fail
      generalize hW2 : w1.alloc (Obj.cells #[Value.int IntKind.i64 (fault n (wrongTypeName T)).fst, Value.int IntKind.i64 (fault n (wrongTypeName T)).snd] 30) = W2
      have hB2 : Below w1.heap.size w1 W2 := by rw [← hW2]; exact below1 _ _
      clear hW2
      have hB3 : Below w.heap.size w W2 := hB1.trans (hB2.mono hB1.size)
      have t0 := keptCell hB2 d0
      have u0 := keptCell hB2 s0
      have u1 := keptCell hB2 s1
      have y0 := (hB2.frozen (p := ⟨w.heap.size + 1, 0, none⟩) hz1).trans g0
      have y1 := (hB2.frozen (p := ⟨w.heap.size + 1, 1, none⟩) hz1).trans g1
      have hz3 : w.heap.size + 1 < W2.heap.size := Nat.lt_of_lt_of_le hz1 hB2.size
      clear d0 s0 s1 g0 g1 hz1 hz0 hB1 hB2
      refine (firstFault_any n hn 120 _ (fun i => wrongFields n T (T i).nf (T i).F) _ Try.e120 ?_).mono ?_
      · intro i hi w3 hw3
        exact wrong2_any a n cap i _ T w3 (HT.out.kept (hB3.trans (hw3.mono hB3.size))) hi (keptCell hw3 t0)
      rintro e w3 ⟨rfl, hw3⟩
      have v0 := keptCell hw3 u0
      have v1 := keptCell hw3 u1
      have z0 := (hw3.frozen (p := ⟨w.heap.size + 1, 0, none⟩) hz3).trans y0
      have z1 := (hw3.frozen (p := ⟨w.heap.size + 1, 1, none⟩) hz3).trans y1
      have hB4 : Below w.heap.size w w3 := hB3.trans (hw3.mono hB3.size)
      have hz4 : w.heap.size + 1 < w3.heap.size := Nat.lt_of_lt_of_le hz3 hw3.size
      clear hw3 u0 u1 y0 y1 hB3 t0
      generalize fault n (fun i => wrongFields n T (T i).nf (T i).F) = r at *
      unfold faultV
      go_wp2_with fail
      exact bodyPost_ret (v := .agg #[.int .i64 r.1, .int .i64 r.2]) (by simp [results, Try.results99, go_sem, v0, v1]) rfl ⟨by rw [hfin.out]; rfl, (hB4.setCell (by simp) _).setCell (by simp) _⟩
    · have hb0 : ((fault n (wrongTypeName T)).1 != 0) = true := by simpa using h0
      have hfin : Hid (wrongS n T = fault n (wrongTypeName T)) := hfin1.out h0
      clear h0
      generalize fault n (wrongTypeName T) = r at *
      go_wp2_with fail
      exact bodyPost_ret (v := .agg #[.int .i64 r.1, .int .i64 r.2]) (by simp [results, Try.results99, go_sem, s0, s1, hz1]) rfl ⟨by rw [hfin.out]; rfl, ((hB1.setCell (by simp) _).setCell (by simp) _).alloc (by simpa using hB1.size) _⟩
end Go.Proofs.Ytjjggefmmeminab
