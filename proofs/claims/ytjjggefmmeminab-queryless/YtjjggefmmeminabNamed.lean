/-
  The contract of schema.Named: whether a text is a name.
-/
import Derived.Test.YtjjggefmmeminabIdx
import Derived.Test.YtjjggefmmeminabMem
import Derived.BigQuiet
import Derived.Shelf.Abstract
import Derived.PlainAid
namespace Go.Proofs.Ytjjggefmmeminab
open Go.RowKit Go.Sort Go.PlainAid

theorem Try.e66 : ∀ args w, (callFunc 66 args).run Try.prog w = .ok (.enter 66 args) w := enters_of Try.func66 (by kernel_rfl) rfl

def letterB (c : Int) : Bool := decide (97 ≤ c) && decide (c ≤ 122)
def digitB (c : Int) : Bool := decide (48 ≤ c) && decide (c ≤ 57)
def oddB (s : ByteArray) (i : Nat) : Bool := !letterB (bt s i) && !digitB (bt s i)
/-- Whether a text is a name. -/
def named (s : ByteArray) : Bool := !(decide (s.size = 0) || decide (12 < s.size) || !letterB (bt s 0)) && decide (idx s.size (oddB s) < 0)

set_option maxHeartbeats 400000 in
theorem letter_any (c : Int) (w : World) : Calls Try.prog 64 #[.int .u8 c] w fun e w' => e = .returned (.bool (letterB c)) ∧ w' = w := by
  unfold letterB
  by_cases h1 : 97 ≤ c <;> by_cases h2 : c ≤ 122
  all_goals
    go_enter Try.func64, Try.ntmps64
    go_wp2
    go_ret
    exact ⟨by simp [h1, h2], rfl⟩
set_option maxHeartbeats 400000 in
theorem digit_any (c : Int) (w : World) : Calls Try.prog 67 #[.int .u8 c] w fun e w' => e = .returned (.bool (digitB c)) ∧ w' = w := by
  unfold digitB
  by_cases h1 : 48 ≤ c <;> by_cases h2 : c ≤ 57
  all_goals
    go_enter Try.func67, Try.ntmps67
    go_wp2
    go_ret
    exact ⟨by simp [h1, h2], rfl⟩

set_option maxHeartbeats 400000 in
theorem named1_any (s : ByteArray) (i b : Nat) (w : World) (hi : i < s.size) (hc : w.cell? ⟨b, 0, none⟩ = some (.string s)) :
    Calls Try.prog 66 #[.int .i64 (i : Int), .pointer (some ⟨b, 0, none⟩)] w fun e w' => e = .returned (.bool (oddB s i)) ∧ Below w.heap.size w w' := by
  have hi' : (i : Int) < (s.size : Int) := by omega
  have hi0 : (0 : Int) ≤ (i : Int) := by omega
  have hg := get_bt s
  unfold oddB
  cases h1 : letterB (bt s i)
  · go_enter Try.func66, Try.ntmps66
    go_wp2_with (first
      | (go_at_call 64; refine (letter_any _ _).mono ?_; rintro e w' ⟨rfl, rfl⟩)
      | (go_at_call 67; refine (digit_any _ _).mono ?_; rintro e w' ⟨rfl, rfl⟩))
    go_ret
    exact ⟨rfl, Below.refl _ _⟩
  · go_enter Try.func66, Try.ntmps66
    go_wp2_with (first
      | (go_at_call 64; refine (letter_any _ _).mono ?_; rintro e w' ⟨rfl, rfl⟩)
      | (go_at_call 67; refine (digit_any _ _).mono ?_; rintro e w' ⟨rfl, rfl⟩))
    go_ret
    exact ⟨rfl, Below.refl _ _⟩

set_option maxHeartbeats 400000 in
theorem named_any (s : ByteArray) (w : World) (hs : Small s) :
    Calls Try.prog 35 #[.string s] w fun e w' => e = .returned (.bool (named s)) ∧ Below w.heap.size w w' := by
  have hmf : ∀ (fn : Fn) (first cap : Array Value) (w : World), (Instr.makeFunc fn first cap).run Try.prog w = .ok (.func fn first cap) w := fun _ _ _ _ => rfl
  unfold Small maxLen at hs
  by_cases h0 : s.toList = []
  · have hfin : Hid (named s = false) := by unfold named Hid; simp [toList_nil.1 h0]
    go_enter Try.func35, Try.ntmps35
    go_wp2_with fail
    go_ret
    exact ⟨by rw [hfin.out]; rfl, below1 _ _⟩
  have h0b : s.toList.isEmpty = false := by simpa using h0
  have hp : 0 < s.size := by have := mt toList_nil.2 h0; omega
  by_cases h1 : 12 < (s.size : Int)
  · have hfin : Hid (named s = false) := by unfold named Hid; simp [show 12 < s.size by omega]
    go_enter Try.func35, Try.ntmps35
    go_wp2_with fail
    go_ret
    exact ⟨by rw [hfin.out]; rfl, below1 _ _⟩
  have hg := get_bt s
  cases h2 : letterB (bt s 0)
  · have hfin : Hid (named s = false) := by unfold named Hid; simp [h2]
    go_enter Try.func35, Try.ntmps35
    go_wp2_with fail
    refine (letter_any _ _).mono ?_
    rintro e w' ⟨rfl, rfl⟩
    go_wp2_with fail
    go_ret
    exact ⟨by rw [hfin.out]; rfl, below1 _ _⟩
  · have hfin : Hid (named s = decide (idx s.size (oddB s) < 0)) := by unfold named Hid; simp [h2, show ¬ 12 < s.size by omega, show ¬ s.size = 0 by omega]
    go_enter Try.func35, Try.ntmps35
    go_wp2_with fail
    refine (letter_any _ _).mono ?_
    rintro e w' ⟨rfl, rfl⟩
    go_wp2_with fail
    refine (index_any s.size hs 66 _ (oddB s) _ Try.e66 ?_).mono ?_
    · intro i hi w1 hw1
      refine named1_any s i _ w1 hi (keptCell hw1 ?_)
      rw [World.cell?_alloc_at _ _ _ _ rfl]; rfl
    · rintro e w1 ⟨rfl, hw1⟩
      go_wp2_with fail
      go_ret
      exact ⟨by rw [hfin.out]; rfl, (below1 w _).trans (hw1.mono (below1 w _).size)⟩
end Go.Proofs.Ytjjggefmmeminab
