/-
  The contract of query.Parse: a fault that is thrown is caught at its edge.
-/
import Derived.Test.YtjjggefmmeminabQpAsk
import Derived.Defers
namespace Go.Proofs.Ytjjggefmmeminab
open Go.RowKit Go.Sort Go.PlainAid

set_option maxRecDepth 100000 in
set_option maxHeartbeats 1000000 in
theorem catch_idle (p q : Addr) (w : World) :
    CallsD Try.prog 32 #[.pointer (some p), .pointer (some q)] .returning w fun e u' w' => e = .returned (.tuple #[]) ∧ u' = .returning ∧ w' = w := by
  refine callsD_of_wpS Try.func32 rfl fun c₀ cs hu => ?_
  apply wpS_seq
  apply wpS_region
  simp [wpOpsS, go_sem, recoverD, hu, Try.ntmps32, Exit.thenS]
  refine wpS_of_wp ?_
  have e : (#[Value.pointer (some p), Value.pointer (some q)] ++ ((Array.replicate 7 undef).setIfInBounds 1 Value.nilIface).setIfInBounds 0 Value.nilIface) = #[Value.pointer (some p), Value.pointer (some q), Value.nilIface, Value.nilIface, undef, undef, undef, undef, undef] := rfl
  rw [e]
  clear e
  go_wp2_with fail
  cases c₀
  simp_all [bodyPostS, results, Try.results32]

theorem run_assert (xt : TypeId) (v : Value) (w : World) : (Instr.typeAssert (.iface 30 v) xt 30 false).run Try.prog w = .ok v w := by kernel_rfl

structure Caught (w w' : World) (rb fb : Nat) (x : Int × Nat) : Prop where
  ask : ABox w' rb ⟨#[]⟩ ⟨#[]⟩ none 0 0
  fault : w'.heap[fb]? = some (.cells #[.int .i64 x.1, .int .i64 (x.2 : Int)] 30 (0, 0))
  os : w'.os = w.os
  tape : w'.tape = w.tape
  output : w'.output = w.output
  size : w.heap.size ≤ w'.heap.size
  block : ∀ k, k < w.heap.size → k ≠ rb → k ≠ fb → w'.heap[k]? = w.heap[k]?

theorem Caught.drewN {w w' : World} {rb fb : Nat} {x : Int × Nat} (h : Caught w w' rb fb x) (q : Nat) : Caught w (w'.drewN q) rb fb x :=
  ⟨h.ask, h.fault, h.os, h.tape, h.output, h.size, h.block⟩
theorem caught_set {w : World} {rb fb : Nat} {x : Int × Nat} (hne : rb ≠ fb) (hr : ABox w rb ⟨#[]⟩ ⟨#[]⟩ none 0 0) (hf : w.heap[fb]? = some (.cells #[.int .i64 0, .int .i64 0] 30 (0, 0))) :
    Caught w (((((w.setCell ⟨rb, 0, none⟩ (.string ⟨#[]⟩)).setCell ⟨rb, 1, none⟩ (.string ⟨#[]⟩)).setCell ⟨rb, 2, none⟩ (.slice none 0 0)).setCell ⟨fb, 0, none⟩ (.int .i64 x.1)).setCell ⟨fb, 1, none⟩ (.int .i64 (x.2 : Int))) rb fb x := by
  have a3 : ABox (((w.setCell ⟨rb, 0, none⟩ (.string ⟨#[]⟩)).setCell ⟨rb, 1, none⟩ (.string ⟨#[]⟩)).setCell ⟨rb, 2, none⟩ (.slice none 0 0)) rb ⟨#[]⟩ ⟨#[]⟩ none 0 0 := ((hr.set0 _).set1 _).set2 _ _ _
  have hne' : fb ≠ rb := fun e => hne e.symm
  have f3 : (((w.setCell ⟨rb, 0, none⟩ (.string ⟨#[]⟩)).setCell ⟨rb, 1, none⟩ (.string ⟨#[]⟩)).setCell ⟨rb, 2, none⟩ (.slice none 0 0)).heap[fb]? = some (.cells #[.int .i64 0, .int .i64 0] 30 (0, 0)) := by
    rw [Below.heap_setCell _ _ _ _ hne', Below.heap_setCell _ _ _ _ hne', Below.heap_setCell _ _ _ _ hne']; exact hf
  generalize hX : ((w.setCell ⟨rb, 0, none⟩ (.string ⟨#[]⟩)).setCell ⟨rb, 1, none⟩ (.string ⟨#[]⟩)).setCell ⟨rb, 2, none⟩ (.slice none 0 0) = X at *
  have hsz : X.heap.size = w.heap.size := by rw [← hX]; simp
  have hbk : ∀ k, k ≠ rb → X.heap[k]? = w.heap[k]? := fun k hk => by rw [← hX, Below.heap_setCell _ _ _ _ hk, Below.heap_setCell _ _ _ _ hk, Below.heap_setCell _ _ _ _ hk]
  have ho : X.os = w.os ∧ X.tape = w.tape ∧ X.output = w.output := by rw [← hX]; exact ⟨rfl, rfl, rfl⟩
  have h4 := boxed_set (u := x.1) (v := (x.2 : Int)) f3
  exact ⟨(a3.other hne).other hne, h4.blk, h4.os.trans ho.1, h4.tape.trans ho.2.1, h4.output.trans ho.2.2, by have := h4.size; omega, fun k hk hk1 hk2 => (h4.keep k (by omega) hk2).trans (hbk k hk1)⟩

set_option maxRecDepth 100000 in
set_option maxHeartbeats 1000000 in
theorem catch_panicking (rb fb : Nat) (x : Int × Nat) (w : World) (hne : rb ≠ fb) (hr : ABox w rb ⟨#[]⟩ ⟨#[]⟩ none 0 0) (hf : w.heap[fb]? = some (.cells #[.int .i64 0, .int .i64 0] 30 (0, 0))) :
    CallsD Try.prog 32 #[.pointer (some ⟨rb, 0, none⟩), .pointer (some ⟨fb, 0, none⟩)] (.panicking (thrown x)) w fun e u' w' => e = .returned (.tuple #[]) ∧ u' = .panicking [{ v := .iface 30 (.agg #[.int .i64 x.1, .int .i64 (x.2 : Int)]), recovered := true }] ∧ Caught w w' rb fb x := by
  have r0 := hr.c0
  have r1 := hr.c1
  have r2 := hr.c2
  have g0 := hr.f0
  have g1 := hr.f1
  have g2 := hr.f2
  obtain ⟨q0, q1, h0, h1⟩ := box_cells hf
  have Hr := hidI hr
  have Hf := hidI hf
  clear hr hf
  refine callsD_of_wpS Try.func32 rfl fun c₀ cs hu => ?_
  apply wpS_seq
  apply wpS_region
  unfold thrown at hu
  simp [wpOpsS, go_sem, recoverD, hu, Try.ntmps32, Exit.thenS]
  refine wpS_of_wp ?_
  have e : (#[Value.pointer (some ⟨rb, 0, none⟩), Value.pointer (some ⟨fb, 0, none⟩)] ++ ((Array.replicate 7 undef).setIfInBounds 1 (Value.iface 30 (Value.agg #[Value.int .i64 x.1, Value.int .i64 (x.2 : Int)]))).setIfInBounds 0 (Value.iface 30 (Value.agg #[Value.int .i64 x.1, Value.int .i64 (x.2 : Int)]))) = #[Value.pointer (some ⟨rb, 0, none⟩), Value.pointer (some ⟨fb, 0, none⟩), (Value.iface 30 (Value.agg #[Value.int .i64 x.1, Value.int .i64 (x.2 : Int)])), (Value.iface 30 (Value.agg #[Value.int .i64 x.1, Value.int .i64 (x.2 : Int)])), undef, undef, undef, undef, undef] := rfl
  rw [e]
  clear e
  have HC : Hid (∀ q, Caught w ((((((w.setCell ⟨rb, 0, none⟩ (.string ⟨#[]⟩)).setCell ⟨rb, 1, none⟩ (.string ⟨#[]⟩)).setCell ⟨rb, 2, none⟩ (.slice none 0 0)).setCell ⟨fb, 0, none⟩ (.int .i64 x.1)).setCell ⟨fb, 1, none⟩ (.int .i64 (x.2 : Int))).drewN q) rb fb x) := fun q => (caught_set hne Hr.out Hf.out).drewN q
  have hta := fun xt v w => run_assert xt v w
  go_wp2_with fail
  go_region
  exact ⟨rfl, _, rfl, _, results_none rfl _ _ _, rfl, rfl, HC.out 1⟩

/-- What Parse answers. -/
def ParseOut (s : ByteArray) (w : World) (e : Ending) (w' : World) : Prop :=
  (∀ r, parse s = .ok r → ∃ a cap, e = .returned (.tuple #[.agg #[.string r.1, .string r.2.1, .slice a r.2.2.length cap], .agg #[.int .i64 0, .int .i64 0]]) ∧ r.2.2.length ≤ cap ∧ PicksAt w' 8 a r.2.2) ∧
  (∀ x, parse s = .error x → e = .returned (.tuple #[.agg #[.string ⟨#[]⟩, .string ⟨#[]⟩, .slice none 0 0], .agg #[.int .i64 x.1, .int .i64 (x.2 : Int)]])) ∧ Below w.heap.size w w'

set_option maxRecDepth 100000 in
set_option maxHeartbeats 2000000 in
theorem parse_any (s : ByteArray) (w : World) (hs : Small s) :
    Calls Try.prog 14 #[.string s] w fun e w' => ParseOut s w e w' := by
  have hmf : ∀ (fn : Fn) (first cap : Array Value) (w : World), (Instr.makeFunc fn first cap).run Try.prog w = .ok (.func fn first cap) w := fun _ _ _ _ => rfl
  unfold Small maxLen at hs
  by_cases h1000 : 1000 < s.size
  · have h1000' : (1000 : Int) < (s.size : Int) := by omega
    have HF : Hid (parse s = .error (3, 0)) := by unfold parse; rw [if_pos h1000]; rfl
    clear h1000
    go_enter_defers Try.func14, Try.ntmps14
    go_wp2_with fail
    exact ⟨.tuple #[.agg #[.string ⟨#[]⟩, .string ⟨#[]⟩, .slice none 0 0], .agg #[.int .i64 3, .int .i64 0]], by simp [results, Try.results14, go_sem], fun r h => (by rw [HF.out] at h; cases h), fun x h => (by rw [HF.out] at h; cases h; rfl), below2 _ _ _⟩
  have h1000' : ¬ (1000 : Int) < (s.size : Int) := by omega
  have HPS : Hid (parse s = pAsk s) := by unfold parse; rw [if_neg h1000]; rfl
  obtain ⟨W, hW⟩ : ∃ W, W = (((w.alloc (Obj.cells #[.string ⟨#[]⟩, .string ⟨#[]⟩, .slice none 0 0] 24)).alloc (Obj.cells #[.int .i64 0, .int .i64 0] 30)).alloc (Obj.cells #[.string s, .int .i64 0, .int .i64 0] 80)) := ⟨_, rfl⟩
  have hBW : Below w.heap.size w W := by rw [hW]; exact ((below2 w _ _).alloc (by simp; omega) _)
  have pr : ABox W w.heap.size ⟨#[]⟩ ⟨#[]⟩ none 0 0 := by
    rw [hW]; exact (Below.heap_alloc _ _ _ (by simp; omega)).trans ((Below.heap_alloc _ _ _ (by simp)).trans (heap_alloc_new _ _))
  have hsz1 : (w.alloc (Obj.cells #[.string ⟨#[]⟩, .string ⟨#[]⟩, .slice none 0 0] 24)).heap.size = w.heap.size + 1 := by simp
  have hsz2 : ((w.alloc (Obj.cells #[.string ⟨#[]⟩, .string ⟨#[]⟩, .slice none 0 0] 24)).alloc (Obj.cells #[.int .i64 0, .int .i64 0] 30)).heap.size = w.heap.size + 2 := by simp
  have pf : W.heap[w.heap.size + 1]? = some (.cells #[.int .i64 0, .int .i64 0] 30 (0, 0)) := by
    rw [hW, ← hsz1]; exact (Below.heap_alloc _ _ _ (by simp)).trans (heap_alloc_new _ _)
  have hb : RBox W (w.heap.size + 2) s 0 0 := by rw [hW, ← hsz2]; exact heap_alloc_new _ _
  have hcl := ask_any (w.heap.size + 2) s W hb (by omega)
  have HBW := hidI hBW
  have HPR := hidI pr
  have HPF := hidI pf
  clear hBW pr pf hb hsz1 hsz2 h1000
  rw [hW] at hcl
  go_enter_defers Try.func14, Try.ntmps14
  go_wp2_with fail
  rw [← hW] at hcl
  rw [← hW]
  clear hW
  refine hcl.mono ?_
  clear hcl
  rintro e w1 ⟨hok, herr, hA⟩
  have pr1 := HPR.out.away hA (by omega)
  have pf1 : w1.heap[w.heap.size + 1]? = some (.cells #[.int .i64 0, .int .i64 0] 30 (0, 0)) := (hA.block _ (lt_of_block HPF.out) (by omega)).trans HPF.out
  have hBw1 : Below w.heap.size w w1 := hA.below HBW.out (by omega) HBW.out.size
  have hlt1 := lt_of_block HPF.out
  cases hp : pAsk s with
  | error x =>
    have HF : Hid (parse s = .error x) := by rw [HPS.out, hp]; rfl
    rw [herr x hp]
    refine leaves_cons (f := 32) (args := #[.pointer (some ⟨w.heap.size, 0, none⟩), .pointer (some ⟨w.heap.size + 1, 0, none⟩)]) (by simp) (by simp [go_sem]) ?_
    refine (catch_panicking w.heap.size (w.heap.size + 1) x w1 (by omega) pr1 pf1).mono ?_
    rintro e u' w2 ⟨rfl, rfl, hC⟩
    have z0 := hC.ask.c0
    have z1 := hC.ask.c1
    have z2 := hC.ask.c2
    obtain ⟨q0, q1, -, -⟩ := box_cells hC.fault
    have hB2 : Below w.heap.size w w2 := hBw1.trans ⟨hC.os, hC.tape, hC.output, hC.size, fun k hk => hC.block k (by have := hBw1.size; omega) (by omega) (by omega)⟩
    exact ⟨.tuple #[.agg #[.string ⟨#[]⟩, .string ⟨#[]⟩, .slice none 0 0], .agg #[.int .i64 x.1, .int .i64 (x.2 : Int)]], by simp [results, Try.results14, go_sem, z0, z1, z2, q0, q1], fun r h => (by rw [HF.out] at h; cases h), fun y h => (by rw [HF.out] at h; cases h; rfl), hB2⟩
  | ok r =>
    have HF : Hid (parse s = .ok r) := by rw [HPS.out, hp]; rfl
    obtain ⟨a, cap, rfl, hc, hf⟩ := hok r hp
    have z0 := pr1.c0
    have z1 := pr1.c1
    have z2 := pr1.c2
    have y0 := pr1.f0
    have y1 := pr1.f1
    have y2 := pr1.f2
    obtain ⟨q0, q1, x0, x1⟩ := box_cells pf1
    have HFR : Hid (PicksAt (((((w1.setCell ⟨w.heap.size, 0, none⟩ (.string r.1)).setCell ⟨w.heap.size, 1, none⟩ (.string r.2.1)).setCell ⟨w.heap.size, 2, none⟩ (.slice a r.2.2.length cap)).setCell ⟨w.heap.size + 1, 0, none⟩ (.int .i64 0)).setCell ⟨w.heap.size + 1, 1, none⟩ (.int .i64 0)) 8 a r.2.2) := hf _ fun k hk hnk => by
      have h1 : ¬ k < W.heap.size := hnk
      rw [Below.heap_setCell _ _ _ _ (by show k ≠ w.heap.size + 1; omega), Below.heap_setCell _ _ _ _ (by show k ≠ w.heap.size + 1; omega), Below.heap_setCell _ _ _ _ (by show k ≠ w.heap.size; omega), Below.heap_setCell _ _ _ _ (by show k ≠ w.heap.size; omega), Below.heap_setCell _ _ _ _ (by show k ≠ w.heap.size; omega)]
    have HB2 : Hid (Below w.heap.size w (((((w1.setCell ⟨w.heap.size, 0, none⟩ (.string r.1)).setCell ⟨w.heap.size, 1, none⟩ (.string r.2.1)).setCell ⟨w.heap.size, 2, none⟩ (.slice a r.2.2.length cap)).setCell ⟨w.heap.size + 1, 0, none⟩ (.int .i64 0)).setCell ⟨w.heap.size + 1, 1, none⟩ (.int .i64 0))) :=
      ((((hBw1.setCell (by show w.heap.size ≤ w.heap.size; omega) _).setCell (by show w.heap.size ≤ w.heap.size; omega) _).setCell (by show w.heap.size ≤ w.heap.size; omega) _).setCell (by show w.heap.size ≤ w.heap.size + 1; omega) _).setCell (by show w.heap.size ≤ w.heap.size + 1; omega) _
    clear hok herr hA hf pr1 pf1 hBw1
    go_wp2_with fail
    refine leaves_cons (f := 32) (args := #[.pointer (some ⟨w.heap.size, 0, none⟩), .pointer (some ⟨w.heap.size + 1, 0, none⟩)]) (by simp) (by simp [go_sem]) ?_
    refine (catch_idle ⟨w.heap.size, 0, none⟩ ⟨w.heap.size + 1, 0, none⟩ _).mono ?_
    rintro e u' w2 ⟨rfl, rfl, rfl⟩
    exact ⟨.tuple #[.agg #[.string r.1, .string r.2.1, .slice a r.2.2.length cap], .agg #[.int .i64 0, .int .i64 0]], by simp [results, Try.results14, go_sem, z0, z1, z2, q0, q1], fun q h => (by rw [HF.out] at h; cases h; exact ⟨a, cap, rfl, hc, HFR.out⟩), fun y h => (by rw [HF.out] at h; cases h), HB2.out⟩
end Go.Proofs.Ytjjggefmmeminab
