/-
  The contracts of serve.again and of the function that it answers: was it asked of the same text before?
-/
import Derived.Test.YtjjggefmmeminabSvMem
import Derived.Test.YtjjggefmmeminabSvPlain
import Derived.WalkSpells
namespace Go.Proofs.Ytjjggefmmeminab
open Go.RowKit Go.Sort

/-- How often a text stands among the first k. -/
def cntN (K : Nat → ByteArray) (k : Nat) (s : ByteArray) : Nat := (List.range k).countP (fun j => eqs (K j) s)
def cnt (K : Nat → ByteArray) (k : Nat) (s : ByteArray) : Option Int := if cntN K k s = 0 then none else some (cntN K k s : Int)
theorem cntN_succ (K : Nat → ByteArray) (k : Nat) (s : ByteArray) : cntN K (k + 1) s = cntN K k s + (if eqs (K k) s then 1 else 0) := by
  unfold cntN; rw [List.range_succ, List.countP_append]; simp [List.countP_cons]
theorem cntN_le (K : Nat → ByteArray) (k : Nat) (s : ByteArray) : cntN K k s ≤ k := by
  unfold cntN
  have := List.countP_le_length (p := fun j => eqs (K j) s) (l := List.range k)
  simpa using this
theorem cnt_getD (K : Nat → ByteArray) (k : Nat) (s : ByteArray) : (cnt K k s).getD 0 = (cntN K k s : Int) := by
  unfold cnt; split
  · rename_i h; rw [h]; rfl
  · rfl
theorem eqs_comm (a b : ByteArray) : eqs a b = eqs b a := by
  cases h : eqs b a
  · cases h' : eqs a b
    · rfl
    · rw [eqs_iff.1 h', eqs_iff.2 rfl] at h; cases h
  · rw [eqs_iff.1 h, eqs_iff.2 rfl]
theorem cnt_succ (K : Nat → ByteArray) (k : Nat) (s : ByteArray) : cnt K (k + 1) s = if eqs s (K k) then some ((cntN K k (K k) : Int) + 1) else cnt K k s := by
  unfold cnt
  rw [cntN_succ, eqs_comm]
  cases h : eqs s (K k)
  · simp
  · rw [eqs_iff.1 h]
    simp
theorem stood_cnt (K : Nat → ByteArray) (k : Nat) : stood K k = decide (1 < (cntN K k (K k) : Int) + 1) := by
  cases h : stood K k
  · symm
    rw [decide_eq_false_iff_not]
    have h0 : cntN K k (K k) = 0 := by
      unfold cntN
      rw [List.countP_eq_zero]
      intro j hj hh
      exact stood_false.1 h j (by simpa using hj) (eqs_iff.1 hh)
    omega
  · symm
    rw [decide_eq_true_iff]
    obtain ⟨j, hj, e⟩ := stood_true.1 h
    have h0 : 0 < cntN K k (K k) := by
      unfold cntN
      rw [List.countP_pos_iff]
      exact ⟨j, by simpa using hj, eqs_iff.2 e⟩
    omega

theorem wf_small {x : Int} (h0 : 0 ≤ x) (h1 : x ≤ 9223372036854775807) : (Lit.int .i64 x).wf = true := by
  have h2 : IntKind.i64.min = -9223372036854775808 := by decide
  have h3 : IntKind.i64.max = 9223372036854775807 := by decide
  simp [Lit.wf, h2, h3]
  omega
/-- The function's variable, when it was asked of the first k texts. -/
structure Asked (w : World) (b m : Nat) (K : Nat → ByteArray) (k : Nat) : Prop where
  box : w.heap[b]? = some (.cells #[.map (some m)] 133 (0, 0))
  map : TMap w m k (cnt K k)
theorem Asked.kept {w w' : World} {b m : Nat} {K : Nat → ByteArray} {k : Nat} (h : Asked w b m K k) (hB : Below w.heap.size w w') : Asked w' b m K k :=
  ⟨(hB.block b (lt_of_block h.box)).trans h.box, h.map.kept hB⟩
theorem Asked.ne {w : World} {b m : Nat} {K : Nat → ByteArray} {k : Nat} (h : Asked w b m K k) : b ≠ m := by
  rintro rfl
  obtain ⟨D, ⟨es, clock, h1, -⟩, -⟩ := h.map
  rw [h.box] at h1
  cases h1
theorem grownBy_trans {w w1 w2 : World} {m : Option Nat} (h : w.grownBy w1 m) (h' : w1.grownBy w2 m) : w.grownBy w2 m :=
  ⟨h'.os.trans h.os, h'.tape.trans h.tape, h'.output.trans h.output, Nat.le_trans h.size h'.size, fun k hk hne => (h'.block k (Nat.lt_of_lt_of_le hk h.size) hne).trans (h.block k hk hne)⟩

set_option maxRecDepth 100000 in
set_option maxHeartbeats 1000000 in
theorem again_any (K : Nat → ByteArray) (w : World) : Calls Try.prog 44 #[] w fun e w' => ∃ b m, e = .returned (.func (.func 75) #[] #[.pointer (some ⟨b, 0, none⟩)]) ∧ w.heap.size ≤ b ∧ w.heap.size ≤ m ∧ Asked w' b m K 0 ∧ Below w.heap.size w w' := by
  have hmf : ∀ (fn : Fn) (first cap : Array Value) (w : World), (Instr.makeFunc fn first cap).run Try.prog w = .ok (.func fn first cap) w := fun _ _ _ _ => rfl
  have hmm := @run_makeMap Try.prog
  go_enter Try.func44, Try.ntmps44
  go_wp2_with fail
  go_ret
  refine ⟨_, _, rfl, by omega, Nat.le_refl _, ⟨?_, ?_⟩, below2 _ _ _⟩
  · exact (show w.heap.size + 1 = (w.alloc (Obj.map #[] 0)).heap.size by simp) ▸ heap_alloc_new _ _
  · exact (TMap.made w).kept (below1 _ _)

set_option maxRecDepth 100000 in
set_option maxHeartbeats 1000000 in
theorem again1_any (b m k : Nat) (K : Nat → ByteArray) (w : World) (hs : Small (K k)) (hk : k < maxLen) (h : Asked w b m K k) :
    Calls Try.prog 75 #[.string (K k), .pointer (some ⟨b, 0, none⟩)] w fun e w' => e = .returned (.bool (stood K k)) ∧ Asked w' b m K (k + 1) ∧ w.grownBy w' (some m) := by
  have hc : w.cell? ⟨b, 0, none⟩ = some (.map (some m)) := by simp [World.cell?, h.box]
  have hl := h.map.look hs
  rw [cnt_getD] at hl
  have hle := cntN_le K k (K k)
  have hkm : k < 9223372036854775807 := hk
  obtain ⟨w1, hst, hM1, hT1⟩ := h.map.store hk hs (x := (cntN K k (K k) : Int) + 1) (wf_small (by omega) (by omega))
  have hG : w.grownBy w1 (some m) := hT1.grown
  have hb1 := (hG.block b (lt_of_block h.box) (fun e => h.ne (by cases e; rfl))).trans h.box
  have hc1 : w1.cell? ⟨b, 0, none⟩ = some (.map (some m)) := by simp [World.cell?, hb1]
  have hM2 : TMap w1 m (k + 1) (cnt K (k + 1)) := hM1.congr fun s _ => (cnt_succ K k s).symm
  have hl1 := hM2.look hs
  rw [cnt_succ, eqs_iff.2 rfl] at hl1
  simp only [if_true, Option.getD_some] at hl1
  have HF : Hid (Asked w1 b m K (k + 1) ∧ w.grownBy w1 (some m)) := ⟨⟨hb1, hM2⟩, hG⟩
  have HS : Hid (stood K k = decide (1 < (cntN K k (K k) : Int) + 1)) := stood_cnt K k
  clear h hM1 hM2 hT1 hG hb1
  generalize cntN K k (K k) = c at *
  go_enter Try.func75, Try.ntmps75
  go_wp2_with fail
  go_ret
  exact ⟨by rw [HS.out]; rfl, HF.out⟩
end Go.Proofs.Ytjjggefmmeminab
