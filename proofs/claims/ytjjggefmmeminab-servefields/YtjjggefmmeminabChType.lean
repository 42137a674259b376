/-
  The contracts of change.callType and change.callField.
-/
import Derived.Test.YtjjggefmmeminabChEach
import Derived.Test.YtjjggefmmeminabChPlain
namespace Go.Proofs.Ytjjggefmmeminab
open Go.RowKit Go.Sort

theorem part_callT {w : World} {base n g cap : Nat} {fv ov : Nat → Value} {S : Nat → PSeen} {t : Nat} {to : ByteArray} (h : Seens w base (.slice (some ⟨g, 0, none⟩) n cap) n fv ov (part (fun i => { S i with name := if i = t then to else (S i).name }) (S t).name to n 0)) : Seens w base (.slice (some ⟨g, 0, none⟩) n cap) n fv ov (callT S t to) := by
  refine h.congr fun i hi => ⟨rfl, rfl, rfl, fun j hj => ?_, fun j hj => rfl⟩
  show retype (S t).name to ((S i).F j) = if i < n ∨ (i = n ∧ j < 0) then _ else _
  rw [if_pos (.inl hi)]

set_option maxRecDepth 100000 in
set_option maxHeartbeats 1000000 in
theorem callType_any (base n t : Nat) (v : Value) (fv ov : Nat → Value) (S : Nat → PSeen) (to : ByteArray) (w : World) (hS : Seens w base v n fv ov S) (ht : t < n) (hto : Small to) (hbase : base ≤ w.heap.size) :
    Calls Try.prog 125 #[v, .int .i64 (t : Int), .string to] w fun e w' => e = .returned (.int .i64 (callTS n S t to).1) ∧ Seens w' base v n fv ov (callTS n S t to).2 ∧ Below base w w' := by
  have hmf : ∀ (fn : Fn) (first cap : Array Value) (w : World), (Instr.makeFunc fn first cap).run Try.prog w = .ok (.func fn first cap) w := fun _ _ _ _ => rfl
  have hn : n ≤ 9223372036854775807 := hS.nmax
  obtain ⟨g, cap, rfl, hg, hcap⟩ := hS.ptr ht
  have HS : Hid (Seens w base (.slice (some ⟨g, 0, none⟩) n cap) n fv ov S) := hS
  clear hS
  have ht' : (t : Int) < (n : Int) := by omega
  have ht0 : (0 : Int) ≤ (t : Int) := by omega
  go_enter Try.func125, Try.ntmps125
  go_wp2_with fail
  generalize hW : w.alloc (Obj.cells #[Value.string to] 9) = W
  have hB : Below w.heap.size w W := by rw [← hW]; exact below1 _ _
  have hbt : W.heap[w.heap.size]? = some (.cells #[.string to] 9 (0, 0)) := by rw [← hW]; exact heap_alloc_new _ _
  clear hW
  generalize hbtw : w.heap.size = bt at *
  have HZ : Hid (w.heap.size = bt) := hbtw
  clear hbtw
  have ct := cell_of_one hbt
  refine (named_any to W hto).mono ?_
  rintro e w1 ⟨rfl, hw1⟩
  have hB1 : Below bt w w1 := hB.trans (hw1.mono (by have := lt_of_block hbt; omega))
  have hbt1 := (hw1.block _ (lt_of_block hbt)).trans hbt
  have ct1 := cell_of_one hbt1
  clear hw1 hB hbt ct
  cases hna : named to
  · have hfin : Hid (callTS n S t to = (6, S)) := by unfold callTS Hid; simp [hna]
    have HS1 : Hid (Seens w1 base (.slice (some ⟨g, 0, none⟩) n cap) n fv ov S) := HS.out.kept (by rw [HZ.out]; exact hB1)
    go_wp2_with fail
    go_ret
    exact ⟨by rw [hfin.out]; rfl, by rw [hfin.out]; exact HS1.out, hB1.mono hbase⟩
  have HS1 : Hid (Seens w1 base (.slice (some ⟨g, 0, none⟩) n cap) n fv ov S) := HS.out.kept (by rw [HZ.out]; exact hB1)
  have hcl := cfind_any base n _ fv ov S to w1 HS1.out
  go_wp2_with fail
  refine hcl.mono ?_
  clear hcl
  rintro e w2 ⟨rfl, hw2⟩
  have hB2 : Below bt w w2 := hB1.trans (hw2.mono (by have := lt_of_block hbt1; omega))
  have hbt2 := (hw2.block _ (lt_of_block hbt1)).trans hbt1
  have ct2 := cell_of_one hbt2
  have HS2 : Hid (Seens w2 base (.slice (some ⟨g, 0, none⟩) n cap) n fv ov S) := HS1.out.kept hw2
  clear hw2 hB1 hbt1 ct1 HS1
  by_cases hpf : 0 ≤ pfind n S to
  · have hfin : Hid (callTS n S t to = (6, S)) := by unfold callTS Hid; simp [hna, hpf]
    go_wp2_with fail
    go_ret
    exact ⟨by rw [hfin.out]; rfl, by rw [hfin.out]; exact HS2.out, hB2.mono hbase⟩
  have hfin : Hid (callTS n S t to = (0, callT S t to)) := by unfold callTS Hid; simp [hna, hpf]
  obtain ⟨k0, -, -, -⟩ := HS2.out.cells ht
  have kz := HS2.out.row.free (t * 4)
  have hgl : g < w2.heap.size := block_lt_of_cell k0
  have hbl : bt < w2.heap.size := lt_of_block hbt2
  go_wp2_with fail
  have hS3 := HS2.out.setName (t := t) hto
  have hne : bt ≠ g := HS2.out.row.box_ne (k := g) rfl hbt2 (by decide)
  have hb3 : (w2.setCell ⟨g, t * 4, none⟩ (.string to)).heap[bt]? = some (.cells #[.string to] 9 (0, 0)) := by rw [Below.heap_setCell _ _ _ _ hne]; exact hbt2
  have hB3 : Below base w (w2.setCell ⟨g, t * 4, none⟩ (.string to)) := (hB2.mono hbase).setCell hg _
  have hz3 : (w2.setCell ⟨g, t * 4, none⟩ (.string to)).heap.size = w2.heap.size := by simp
  generalize (w2.setCell ⟨g, t * 4, none⟩ (.string to)) = W3 at *
  have hW2 := below1 W3 (Obj.cells #[Value.string (S t).name] 9)
  have hS4 := hS3.kept hW2
  have hbx : Boxes (W3.alloc (Obj.cells #[Value.string (S t).name] 9)) w2.heap.size bt (S t).name to := ⟨by rw [← hz3]; exact heap_alloc_new _ _, (hW2.block _ (by omega)).trans hb3⟩
  have hB4 : Below base w (W3.alloc (Obj.cells #[Value.string (S t).name] 9)) := hB3.trans (hW2.mono (by omega))
  have hsz : base ≤ (W3.alloc (Obj.cells #[Value.string (S t).name] 9)).heap.size := by simp; omega
  refine (eachField_any base n w2.heap.size bt _ fv ov _ (S t).name to _ hS4 hbx hto hsz).mono ?_
  rintro e w5 ⟨rfl, hS5, hB5⟩
  have HS5 : Hid (Seens w5 base (.slice (some ⟨g, 0, none⟩) n cap) n fv ov (callT S t to)) := part_callT hS5
  have HB5 : Hid (Below base w w5) := hB4.trans hB5
  clear hS3 hS4 hbx hB4 hsz hS5 hB5 hW2 hne hb3 hB3 hz3
  go_wp2_with fail
  go_ret
  exact ⟨by rw [hfin.out]; rfl, by rw [hfin.out]; exact HS5.out, HB5.out⟩

theorem callF_set {w : World} {base n : Nat} {v : Value} {fv ov : Nat → Value} {S : Nat → PSeen} (h : Seens w base v n fv ov S) {t f fb cap : Nat} (ht : t < n) (hfv : fv t = .slice (some ⟨fb, 0, none⟩) (S t).nf cap) {to : ByteArray} (hs : Small to) :
    Seens (w.setCell ⟨fb, f * 3, none⟩ (.string to)) base v n fv ov (callF S t f to) := by
  refine h.setField ht hfv (.string to) (f * 3) (fun j => if j = f then { (S t).F j with name := to } else (S t).F j) ?_ ?_
  · intro q hq
    by_cases hqf : q = f * 3
    · subst hqf
      rw [if_pos rfl, fieldCell0, if_pos rfl]
    · rw [if_neg hqf]
      unfold fieldCell
      by_cases hd : q / 3 = f
      · simp [hd, show ¬ q % 3 = 0 by omega]
      · simp [hd]
  · intro j hj
    obtain ⟨q1, q2, q3⟩ := (h.good t ht).2.2.2.1 j hj
    by_cases hd : j = f
    · rw [if_pos hd]; exact ⟨hs, q2, q3⟩
    · rw [if_neg hd]; exact ⟨q1, q2, q3⟩

set_option maxRecDepth 100000 in
set_option maxHeartbeats 1000000 in
theorem callField_any (base n t f : Nat) (v : Value) (fv ov : Nat → Value) (S : Nat → PSeen) (to : ByteArray) (w : World) (hS : Seens w base v n fv ov S) (ht : t < n) (hf : f < (S t).nf) (hto : Small to) (hbase : base ≤ w.heap.size) :
    Calls Try.prog 126 #[fv t, .int .i64 (f : Int), .string to] w fun e w' => e = .returned (.int .i64 (callFS S t f to).1) ∧ Seens w' base v n fv ov (callFS S t f to).2 ∧ Below base w w' := by
  have hgood := hS.good t ht
  have hrow := hS.fields t ht
  rcases hrow.shape with ⟨-, h0⟩ | ⟨fb, cap, hfv, hfb, hcap, -⟩
  · omega
  have HS : Hid (Seens w base v n fv ov S) := hS
  have HFV : Hid (fv t = .slice (some ⟨fb, 0, none⟩) (S t).nf cap) := hfv
  obtain ⟨a, cap', hv', -, hFA⟩ := hrow.fieldsAt hgood.2.2.1 hgood.2.2.2.1
  rw [hfv] at hv'
  cases hv'
  have HFA : Hid (FieldsAt w (some ⟨fb, 0, none⟩) (S t).nf (S t).F) := hFA
  have hnf : (S t).nf ≤ 9223372036854775807 := hgood.2.2.1
  rw [hfv]
  clear hS hgood hrow hFA hfv
  have hf' : (f : Int) < ((S t).nf : Int) := by omega
  have hf0 : (0 : Int) ≤ (f : Int) := by omega
  go_enter Try.func126, Try.ntmps126
  go_wp2_with fail
  refine (named_any to w hto).mono ?_
  rintro e w1 ⟨rfl, hw1⟩
  cases hna : named to
  · have hfin : Hid (callFS S t f to = (6, S)) := by unfold callFS Hid; simp [hna]
    have HS1 : Hid (Seens w1 base v n fv ov S) := HS.out.kept hw1
    go_wp2_with fail
    go_ret
    exact ⟨by rw [hfin.out]; rfl, by rw [hfin.out]; exact HS1.out, hw1.mono hbase⟩
  have hcl := field_any (some ⟨fb, 0, none⟩) (S t).nf cap (S t).F to w1 (HFA.out.kept hw1)
  go_wp2_with fail
  refine hcl.mono ?_
  clear hcl
  rintro e w2 ⟨rfl, hw2⟩
  have hB2 : Below w.heap.size w w2 := hw1.trans (hw2.mono hw1.size)
  clear hw1 hw2
  have HS2 : Hid (Seens w2 base v n fv ov S) := HS.out.kept hB2
  by_cases hpf : 0 ≤ fieldIdx (S t).nf (S t).F to
  · have hfin : Hid (callFS S t f to = (6, S)) := by unfold callFS Hid; simp [hna, hpf]
    go_wp2_with fail
    go_ret
    exact ⟨by rw [hfin.out]; rfl, by rw [hfin.out]; exact HS2.out, hB2.mono hbase⟩
  have hfin : Hid (callFS S t f to = (0, callF S t f to)) := by unfold callFS Hid; simp [hna, hpf]
  have hrow2 := HS2.out.fields t ht
  rw [HFV.out] at hrow2
  have k0 := hrow2.cell (j := f * 3) (by omega)
  have kz := hrow2.free (f * 3)
  have hB3 : Hid (Below base w (w2.setCell ⟨fb, f * 3, none⟩ (.string to))) := (hB2.mono hbase).setCell hfb _
  have HS3 : Hid (Seens (w2.setCell ⟨fb, f * 3, none⟩ (.string to)) base v n fv ov (callF S t f to)) := callF_set HS2.out ht HFV.out hto
  rw [fieldCell0] at k0
  clear hrow2
  go_wp2_with fail
  go_ret
  exact ⟨by rw [hfin.out]; rfl, by rw [hfin.out]; exact HS3.out, hB3.out⟩
end Go.Proofs.Ytjjggefmmeminab
