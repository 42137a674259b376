import Derived.Test.YtjjggefmmeminaaMgFindF
import Derived.Test.YtjjggefmmeminaaRmAll
import Derived.Test.YtjjggefmmeminaaMgAll
import Derived.Test.YtjjggefmmeminaaRmSame
import Derived.Test.YtjjggefmmeminaaRmWrong
/-
  The walk of stitchlaw3.MergeTells.
-/
namespace Go.Proofs.Ytjjggefmmeminaa
open Go.RowKit Go.Sort Go.PlainAid

/-- All parts, or none where something is wrong. -/
def partsL (n : Nat) (V : Nat → LServ) : List PPart := if (allF n V).1 = 0 then allP (ntS V) (seenA V) n else []
theorem allF_ok {n : Nat} {V : Nat → LServ} (h : (allF n V).1 = 0) : (wrongF n V).1 = 0 := by
  unfold allF at h
  by_cases h0 : (wrongF n V).1 = 0
  · exact h0
  · rw [if_pos h0] at h; exact absurd h h0
theorem partsL_few (n : Nat) (V : Nat → LServ) : ∀ i, i < (partsL n V).length → (nth (partsL n V) i).os.length ≤ 1000 ∧ (nth (partsL n V) i).hs.length ≤ 1000 := by
  unfold partsL
  by_cases h0 : (allF n V).1 = 0
  · rw [if_pos h0]
    obtain ⟨hn5, hok⟩ := wrongF_ok (allF_ok h0)
    have hfew := few_all (n := ntS V) (S := seenA V) n (fun q hq => (seeF_right (hok q hq).1).few) (fun q hq j hj => ((right_run (seeF_right (hok q hq).1) (V q).nc).fld j hj).few)
    exact fun i hi => ⟨by have := hfew.os i hi; omega, by have := hfew.hs i hi; omega⟩
  · rw [if_neg h0]; exact fun i hi => absurd hi (Nat.not_lt_zero _)
theorem all_out {n : Nat} {V : Nat → LServ} {w w' : World} {va : Option Addr} {vn vc : Nat} (hno : (allF n V).1 ≠ 0 → va = none ∧ vn = 0 ∧ vc = 0) (hyes : (allF n V).1 = 0 → ∃ rv, Parts (fun b => b < w.heap.size) w' (.slice va vn vc) (allP (ntS V) (seenA V) n) rv) : ∃ rv, Parts (fun b => b < w.heap.size) w' (.slice va vn vc) (partsL n V) rv := by
  unfold partsL
  by_cases h0 : (allF n V).1 = 0
  · rw [if_pos h0]; exact hyes h0
  · rw [if_neg h0]
    obtain ⟨rfl, rfl, rfl⟩ := hno h0
    exact ⟨fun _ _ => undef, parts_nil _ _ _⟩

set_option maxRecDepth 100000 in
set_option maxHeartbeats 4000000 in
theorem mergeTells_any (a : Option Addr) (n cap : Nat) (V : Nat → LServ) (name : ByteArray) (w : World) (hS : ServsAt w a n V) :
    Calls Try.prog 10 #[.slice a n cap, .string name] w fun e w' => e = .returned (.bool true) ∧ Below w.heap.size w w' := by
  have hn : n ≤ 9223372036854775807 := hS.1
  have HS := Hid.intro hS
  clear hS
  go_enter Try.func10, Try.ntmps10
  go_wp2_with fail
  refine (mallN_any a n cap V w HS.out).mono ?_
  rintro e w1 ⟨⟨va, vn, vc, rfl, hno, hyes⟩, hw1⟩
  obtain ⟨rv, hP⟩ := all_out hno hyes
  obtain ⟨W1, hW1⟩ : ∃ W1, W1 = w1.alloc (Obj.cells #[.int .i64 (allF n V).1, .int .i64 (allF n V).2] 30) := ⟨_, rfl⟩
  have hB1 : Below w1.heap.size w1 W1 := by rw [hW1]; exact below1 _ _
  have hf1 : W1.heap[w1.heap.size]? = some (.cells #[.int .i64 (allF n V).1, .int .i64 (allF n V).2] 30 (0, 0)) := by rw [hW1]; exact heap_alloc_new _ _
  have HP1 := Hid.intro (hP.kept' hB1)
  have HF1 := Hid.intro hf1
  have HB1 : Hid (Below w.heap.size w W1) := hw1.trans (hB1.mono hw1.size)
  clear hno hyes hP hB1 hf1 hw1
  unfold faultV
  go_wp2_with fail
  rw [← hW1]
  clear hW1
  refine (refAllN_any a n cap V W1 (HS.out.kept HB1.out)).mono ?_
  rintro e w2 ⟨⟨vb, vm, vd, rfl, hno, hyes⟩, hw2⟩
  obtain ⟨rv2, hP⟩ := all_out hno hyes
  obtain ⟨W2, hW2⟩ : ∃ W2, W2 = w2.alloc (Obj.cells #[.int .i64 (allF n V).1, .int .i64 (allF n V).2] 30) := ⟨_, rfl⟩
  have hB2 : Below w2.heap.size w2 W2 := by rw [hW2]; exact below1 _ _
  have hf2 : W2.heap[w2.heap.size]? = some (.cells #[.int .i64 (allF n V).1, .int .i64 (allF n V).2] 30 (0, 0)) := by rw [hW2]; exact heap_alloc_new _ _
  have h12 : Below W1.heap.size W1 W2 := hw2.trans (hB2.mono hw2.size)
  have hf1 : W2.heap[w1.heap.size]? = some (.cells #[.int .i64 (allF n V).1, .int .i64 (allF n V).2] 30 (0, 0)) := (h12.block _ (lt_of_block HF1.out)).trans HF1.out
  have HQ2 := Hid.intro (hP.kept' hB2)
  have HP2 := Hid.intro (HP1.out.kept' h12)
  have HB2 : Hid (Below w.heap.size w W2) := HB1.out.trans (h12.mono HB1.out.size)
  obtain ⟨f0, f1, -, -⟩ := box_cells hf1
  obtain ⟨g0, g1, -, -⟩ := box_cells hf2
  have HFW := Hid.intro (partsL_few n V)
  obtain ⟨r, hr⟩ : ∃ r, r = allF n V := ⟨_, rfl⟩
  clear hno hyes hP hB2 hf1 hf2 hw2 h12 HP1 HF1 HB1
  unfold faultV
  rw [← hr] at f0 f1 g0 g1 hW2 ⊢
  clear hr
  generalize partsL n V = L at *
  rw [hW2] at f0 f1 g0 g1
  go_wp2_with fail
  rw [← hW2]
  clear f0 f1 g0 g1 hW2
  refine (sameParts_any _ _ va vb vn vc vm vd L rv rv2 W2 HP2.out HQ2.out HFW.out).mono ?_
  rintro e w3 ⟨rfl, hw3⟩
  have HB3 : Hid (Below w.heap.size w w3) := HB2.out.trans (hw3.mono HB2.out.size)
  have HQ3 := Hid.intro (HQ2.out.kept' hw3)
  clear hw3 HB2 HQ2 HP2
  go_wp2_with fail
  refine (mwrong_any a n cap V w3 (HS.out.kept HB3.out)).mono ?_
  rintro e w4 ⟨rfl, hw4⟩
  have HB4 : Hid (Below w.heap.size w w4) := HB3.out.trans (hw4.mono HB3.out.size)
  have HQ4 := Hid.intro (HQ3.out.kept' hw4)
  clear hw4 HB3 HQ3
  go_wp2_with fail
  refine (refWS_any a n cap V w4 (HS.out.kept HB4.out)).mono ?_
  rintro e w5 ⟨rfl, hw5⟩
  have HB5 : Hid (Below w.heap.size w w5) := HB4.out.trans (hw5.mono HB4.out.size)
  have HQ5 := Hid.intro (HQ4.out.kept' hw5)
  clear hw5 HB4 HQ4
  unfold faultV
  generalize wrongF n V = z
  go_wp2_with fail
  refine (mfind_any _ (.slice vb vm vd) L rv2 name w5 HQ5.out).mono ?_
  rintro e w6 ⟨rfl, hw6⟩
  have HB6 : Hid (Below w.heap.size w w6) := HB5.out.trans (hw6.mono HB5.out.size)
  have HQ6 := Hid.intro (HQ5.out.kept' hw6)
  clear hw6 HB5 HQ5
  obtain rfl := HQ6.out.shape
  go_wp2_with fail
  refine (refPart_any _ vb _ vd L rv2 name w6 HQ6.out).mono ?_
  rintro e w7 ⟨⟨g, hg, rfl⟩, hw7⟩
  have HB7 : Hid (Below w.heap.size w w7) := HB6.out.trans (hw7.mono HB6.out.size)
  have HQ7 := Hid.intro (HQ6.out.kept' hw7)
  have hnl : L.length ≤ 9223372036854775807 := HQ6.out.nmax
  clear hw7 HB6 HQ6
  unfold partPtr
  rcases idx_cases L.length (fun i => eqs (nth L i).name name) with ⟨hi, -⟩ | ⟨k, hk, hi, he, -⟩
  · rw [show mfind L name = -1 from hi, if_pos (by decide)]
    clear hi hg
    go_wp2_with fail
    go_ret
    exact ⟨rfl, HB7.out⟩
  · rw [show mfind L name = (k : Int) from hi, if_neg (by omega)]
    obtain rfl := hg (by omega)
    have c0 := (HQ7.out.cells hk).1
    have hnm : (nth L k).name = name := eqs_iff.1 he
    rw [hnm] at c0
    have hk1 : (k : Int) < (L.length : Int) := by omega
    have hk2 : (0 : Int) ≤ (k : Int) := by omega
    have hk3 : ¬ (k : Int) < 0 := by omega
    clear hi hg he hnm
    go_wp2_with fail
    go_ret
    exact ⟨rfl, HB7.out⟩
end Go.Proofs.Ytjjggefmmeminaa
