/-
  The contracts of stitchref1.Named, Type, At and Has: the same names, the same numbers.
-/
import Derived.Test.YtjjggefmmeminaaNamed
import Derived.Test.YtjjggefmmeminaaMorePlain
namespace Go.Proofs.Ytjjggefmmeminaa
open Go.RowKit Go.Sort Go.PlainAid

def rbad (s : ByteArray) (j : Nat) : Bool := !letterB (bt s j) && (decide (j = 0) || !digitB (bt s j))
theorem named_bad {s : ByteArray} {k : Nat} (hk : k < s.size) (h : rbad s k = true) : named s = false := by
  unfold rbad at h
  simp only [Bool.and_eq_true, Bool.not_eq_true', Bool.or_eq_true, decide_eq_true_eq] at h
  obtain ⟨h1, h2⟩ := h
  unfold named
  rcases h2 with h2 | h2
  · subst h2; simp [h1]
  · have : ¬ idx s.size (oddB s) < 0 := by
      rw [idx_neg]
      intro hh
      have := hh k hk
      unfold oddB at this
      simp [h1, h2] at this
    simp [this]
theorem named_good {s : ByteArray} (h : ∀ j, j < s.size → rbad s j = false) : named s = (decide (0 < s.size) && decide (s.size ≤ 12)) := by
  unfold named
  by_cases h0 : s.size = 0
  · simp [h0]
  · have h1 : letterB (bt s 0) = true := by
      have := h 0 (by omega)
      unfold rbad at this
      simpa using this
    have h2 : idx s.size (oddB s) < 0 := by
      rw [idx_neg]
      intro j hj
      have := h j hj
      unfold rbad at this
      unfold oddB
      cases hl : letterB (bt s j)
      · rw [hl] at this
        have h3 : digitB (bt s j) = true := by
          simp at this; exact this.2
        simp [h3]
      · rfl
    by_cases h3 : 12 < s.size
    · simp [h3, show ¬ s.size ≤ 12 by omega]
    · simp [h0, h1, h2, h3, show s.size ≤ 12 by omega, show 0 < s.size by omega]

theorem cell_bytesRow (w : World) (s : ByteArray) (cap : Nat) (e : TypeId) (fz : Nat × Nat) (j : Nat) (hj : j < s.size) : (w.alloc (.cells (bytesRow s cap) e fz)).cell? ⟨w.heap.size, j, none⟩ = some (.int .u8 (bt s j)) := by
  have hj' : j < s.data.size := hj
  have h : (bytesRow s cap)[j]? = some (.int .u8 (bt s j)) := by
    unfold bytesRow
    rw [Array.getElem?_append_left (by simpa using hj'), Array.getElem?_map, Array.getElem?_eq_getElem hj']
    rw [← get_bt s j hj]
    rfl
  unfold World.cell?
  rw [heap_alloc_new]
  simpa using h

set_option maxHeartbeats 1000000 in
theorem refNamed_any (s : ByteArray) (w : World) (hs : Small s) :
    Calls Try.prog 16 #[.string s] w fun e w' => e = .returned (.bool (named s)) ∧ Below w.heap.size w w' := by
  have hconv : ∀ w, (convert 9 103 (.string s)).run Try.prog w = _ := fun w => run_bytes_of_string w 9 103 5 s Try.underlying9 Try.underlying103 Try.underlying5
  unfold Small maxLen at hs
  go_enter Try.func16, Try.ntmps16
  go_wp2_with fail
  generalize hW : (w.alloc (Obj.cells (bytesRow s (grownCap w s.size 0 5)) 5 ((bytesRow s (grownCap w s.size 0 5)).size, (bytesRow s (grownCap w s.size 0 5)).size + 1))).drew = W
  have hB : Below w.heap.size w W := by rw [← hW]; exact (below1 w _).drew
  have hcell : ∀ j, j < s.size → W.cell? ⟨w.heap.size, j, none⟩ = some (.int .u8 (bt s j)) := by
    rw [← hW]; exact fun j hj => cell_bytesRow w s _ _ _ j hj
  clear hW
  have HC : Hid (∀ j, j < s.size → W.cell? ⟨w.heap.size, j, none⟩ = some (.int .u8 (bt s j))) := hcell
  clear hcell hconv
  generalize grownCap w s.size 0 5 = cap
  go_loop [9] (fun i => ∃ k : Nat, k ≤ s.size ∧ i = .int .i64 k ∧ Hid (∀ j, j < k → rbad s j = false)) (fun i => s.size - (intOf i).toNat)
  case atStart => exact ⟨0, Nat.zero_le _, rfl, (fun j hj => absurd hj (Nat.not_lt_zero _))⟩
  case round =>
    obtain ⟨k, hk, rfl, hb⟩ := hrel
    by_cases hlt : k < s.size
    · have hc := HC.out k hlt
      have c0 := bt_nonneg s k
      have c1 := bt_le s k
      have hlt' : (k : Int) < (s.size : Int) := by omega
      have hk0 : (0 : Int) ≤ (k : Int) := by omega
      have hgood : Hid (rbad s k = false → ∀ j, j < k + 1 → rbad s j = false) := fun h j hj => by
        rcases Nat.lt_succ_iff_lt_or_eq.1 hj with h' | h'
        · exact hb j h'
        · rw [h']; exact h
      have hrb : Hid (rbad s k = (!(decide (97 ≤ bt s k) && decide (bt s k ≤ 122)) && (decide (k = 0) || !(decide (48 ≤ bt s k) && decide (bt s k ≤ 57))))) := rfl
      have hbad : Hid (rbad s k = true → named s = false) := named_bad hlt
      generalize bt s k = c at *
      by_cases h1 : 97 ≤ c
      · by_cases h2 : c ≤ 122
        · have hq : Hid (∀ j, j < k + 1 → rbad s j = false) := hgood.out (by rw [hrb.out]; simp [h1, h2])
          go_wp2_with fail
          go_round
          case rel => exact ⟨k + 1, by omega, by go_num, hq⟩
          case measure => simp [intOf]; omega
        · have hq : Hid (named s = false) := hbad.out (by rw [hrb.out]; simp [h2, show ¬ c ≤ 57 by omega])
          by_cases h3 : k = 0
          · have h3b : ((k : Int) == 0) = true := by rw [beq_iff_eq]; omega
            clear h3
            go_wp2_with fail
            go_ret
            exact ⟨by rw [hq.out]; rfl, hB⟩
          · have h3b : ((k : Int) == 0) = false := by rw [beq_eq_false_iff_ne]; omega
            have h4 : ¬ c < 48 := by omega
            have h5 : 57 < c := by omega
            clear h3
            go_wp2_with fail
            go_ret
            exact ⟨by rw [hq.out]; rfl, hB⟩
      · by_cases h3 : k = 0
        · have hq : Hid (named s = false) := hbad.out (by rw [hrb.out]; simp [h1, h3])
          have h3b : ((k : Int) == 0) = true := by rw [beq_iff_eq]; omega
          clear h3
          go_wp2_with fail
          go_ret
          exact ⟨by rw [hq.out]; rfl, hB⟩
        · have h3b : ((k : Int) == 0) = false := by rw [beq_eq_false_iff_ne]; omega
          by_cases h4 : c < 48
          · have hq : Hid (named s = false) := hbad.out (by rw [hrb.out]; simp [h1, show ¬ 48 ≤ c by omega])
            clear h3
            go_wp2_with fail
            go_ret
            exact ⟨by rw [hq.out]; rfl, hB⟩
          · by_cases h5 : 57 < c
            · have hq : Hid (named s = false) := hbad.out (by rw [hrb.out]; simp [h1, show ¬ c ≤ 57 by omega])
              clear h3
              go_wp2_with fail
              go_ret
              exact ⟨by rw [hq.out]; rfl, hB⟩
            · have hq : Hid (∀ j, j < k + 1 → rbad s j = false) := hgood.out (by rw [hrb.out]; simp [h3, show 48 ≤ c by omega, show c ≤ 57 by omega])
              clear h3
              go_wp2_with fail
              go_round
              case rel => exact ⟨k + 1, by omega, by go_num, hq⟩
              case measure => simp [intOf]; omega
    · have hq : Hid (named s = (decide (0 < s.size) && decide (s.size ≤ 12))) := named_good (fun j hj => hb j (by omega))
      by_cases h6 : 0 < (s.size : Int)
      · by_cases h7 : (s.size : Int) ≤ 12
        · go_wp2_with fail
          go_ret
          exact ⟨by rw [hq.out]; simp [show 0 < s.size by omega, show s.size ≤ 12 by omega], hB⟩
        · go_wp2_with fail
          go_ret
          exact ⟨by rw [hq.out]; simp [show ¬ s.size ≤ 12 by omega], hB⟩
      · go_wp2_with fail
        go_ret
        exact ⟨by rw [hq.out]; simp [show s.size = 0 by omega], hB⟩
end Go.Proofs.Ytjjggefmmeminaa
