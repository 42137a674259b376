/-
  The contracts of the reader's methods.
-/
import Derived.Test.YtjjggefmmeminabQpPlain
import Derived.Test.YtjjggefmmeminabQyMem
import Derived.Handy
import Derived.Recover
import Derived.Laws.NewBlocks
namespace Go.Proofs.Ytjjggefmmeminab
open Go.RowKit Go.Sort Go.PlainAid

/-- Whatever was there stands as it stood, but for one block. -/
structure Away (b : Nat) (w w' : World) : Prop where
  os : w'.os = w.os
  tape : w'.tape = w.tape
  output : w'.output = w.output
  size : w.heap.size ≤ w'.heap.size
  block : ∀ k, k < w.heap.size → k ≠ b → w'.heap[k]? = w.heap[k]?
theorem Away.refl (b : Nat) (w : World) : Away b w w := ⟨rfl, rfl, rfl, Nat.le_refl _, fun _ _ _ => rfl⟩
theorem Away.trans {b : Nat} {u v w : World} (h : Away b u v) (k : Away b v w) : Away b u w :=
  ⟨k.os.trans h.os, k.tape.trans h.tape, k.output.trans h.output, Nat.le_trans h.size k.size, fun j hj hb => (k.block j (Nat.lt_of_lt_of_le hj h.size) hb).trans (h.block j hj hb)⟩
theorem Away.of {b : Nat} {w w' : World} (h : Below w.heap.size w w') : Away b w w' := ⟨h.os, h.tape, h.output, h.size, fun k hk _ => h.block k hk⟩
theorem Away.set (w : World) (b o : Nat) (v : Value) : Away b w (w.setCell ⟨b, o, none⟩ v) :=
  ⟨rfl, rfl, rfl, by simp, fun k _ hk => Below.heap_setCell _ _ _ _ hk⟩
theorem Away.below {b B : Nat} {w0 w w' : World} (h : Away b w w') (h0 : Below B w0 w) (hb : B ≤ b) (hw : B ≤ w.heap.size) : Below B w0 w' :=
  h0.trans ⟨h.os, h.tape, h.output, h.size, fun k hk => h.block k (by omega) (by omega)⟩
theorem Away.cell {b : Nat} {w w' : World} (h : Away b w w') {p : Addr} {v : Value} (hp : w.cell? p = some v) (hne : p.block ≠ b) : w'.cell? p = some v :=
  (World.cell?_of_block (w := w) (h.block p.block (block_lt_of_cell hp) hne)).trans hp

/-- A reader's own variable: the text, where it stands, how many picks there are. -/
def RBox (w : World) (b : Nat) (s : ByteArray) (i n : Nat) : Prop := w.heap[b]? = some (.cells #[.string s, .int .i64 (i : Int), .int .i64 (n : Int)] 80 (0, 0))
theorem RBox.c0 {w : World} {b : Nat} {s : ByteArray} {i n : Nat} (h : RBox w b s i n) : w.cell? ⟨b, 0, none⟩ = some (.string s) := by simp [World.cell?, show w.heap[b]? = _ from h]
theorem RBox.c1 {w : World} {b : Nat} {s : ByteArray} {i n : Nat} (h : RBox w b s i n) : w.cell? ⟨b, 1, none⟩ = some (.int .i64 (i : Int)) := by simp [World.cell?, show w.heap[b]? = _ from h]
theorem RBox.c2 {w : World} {b : Nat} {s : ByteArray} {i n : Nat} (h : RBox w b s i n) : w.cell? ⟨b, 2, none⟩ = some (.int .i64 (n : Int)) := by simp [World.cell?, show w.heap[b]? = _ from h]
theorem RBox.f1 {w : World} {b : Nat} {s : ByteArray} {i n : Nat} (h : RBox w b s i n) : w.frozen? ⟨b, 1, none⟩ = false := by simp [World.frozen?, show w.heap[b]? = _ from h]
theorem RBox.f2 {w : World} {b : Nat} {s : ByteArray} {i n : Nat} (h : RBox w b s i n) : w.frozen? ⟨b, 2, none⟩ = false := by simp [World.frozen?, show w.heap[b]? = _ from h]
theorem RBox.lt {w : World} {b : Nat} {s : ByteArray} {i n : Nat} (h : RBox w b s i n) : b < w.heap.size := block_lt_of_cell h.c0
theorem RBox.setAt {w : World} {b : Nat} {s : ByteArray} {i n : Nat} (h : RBox w b s i n) (j : Nat) : RBox (w.setCell ⟨b, 1, none⟩ (.int .i64 (j : Int))) b s j n := heap_setCell_same w b 1 _ 80 _ h
theorem RBox.setN {w : World} {b : Nat} {s : ByteArray} {i n : Nat} (h : RBox w b s i n) (j : Nat) : RBox (w.setCell ⟨b, 2, none⟩ (.int .i64 (j : Int))) b s i j := heap_setCell_same w b 2 _ 80 _ h
theorem RBox.kept {w w' : World} {b : Nat} {s : ByteArray} {i n : Nat} (h : RBox w b s i n) (hB : Below w.heap.size w w') : RBox w' b s i n := (hB.block b h.lt).trans h

/-- The fault that is thrown. -/
def thrown (e : Int × Nat) : List PanicEntry := [{ v := .iface 30 (.agg #[.int .i64 e.1, .int .i64 (e.2 : Int)]), recovered := false }]
/-- Where a reader stands, by its variable. -/
def posOf (w : World) (b : Nat) : Nat := match w.cell? ⟨b, 1, none⟩ with | some v => (intOf v).toNat | none => 0
theorem RBox.pos {w : World} {b : Nat} {s : ByteArray} {i n : Nat} (h : RBox w b s i n) : posOf w b = i := by unfold posOf; rw [h.c1]; simp [intOf]

set_option maxRecDepth 100000 in
theorem throw_any (e : Int) (i : Nat) (w : World) : Calls Try.prog 91 #[.int .i64 e, .int .i64 (i : Int)] w fun x w' => x = .panicked (thrown (e, i)) ∧ w' = w := by
  go_enter Try.func91, Try.ntmps91
  go_wp2_with fail
  exact ⟨rfl, rfl, rfl⟩

set_option maxRecDepth 100000 in
set_option maxHeartbeats 1000000 in
theorem blanks_any (b : Nat) (s : ByteArray) (i n : Nat) (w : World) (hb : RBox w b s i n) (hi : i ≤ s.size) (hs : s.size ≤ 1000) :
    Calls Try.prog 89 #[.pointer (some ⟨b, 0, none⟩)] w fun e w' => e = .returned (.tuple #[]) ∧ RBox w' b s (skipB s i) n ∧ Away b w w' := by
  have hg := get_bt s
  have Hb := hidI hb
  clear hb
  go_enter Try.func89, Try.ntmps89
  go_wp2_with fail
  go_loopw [] (fun wr => ∃ k : Nat, k ≤ s.size ∧ RBox wr b s k n ∧ Hid (skipB s i = skipB s k) ∧ Away b w wr) (fun wr => s.size - posOf wr b)
  case atStart => exact ⟨i, hi, Hb.out, rfl, Away.refl _ _⟩
  case round =>
    obtain ⟨k, hk, hr, HS, hA⟩ := hrel
    have c0 := hr.c0
    have c1 := hr.c1
    have f1 := hr.f1
    have Hr := hidI hr
    have HA := hidI hA
    clear hr hA
    by_cases hlt : k < s.size
    · have hlt' : (k : Int) < (s.size : Int) := by omega
      have hk0 : (0 : Int) ≤ (k : Int) := by omega
      have HY : Hid (blankB (bt s k) = true → skipB s i = skipB s (k + 1)) := fun h => by rw [HS.out]; exact span_step hlt h
      have HN : Hid (blankB (bt s k) = false → skipB s i = k) := fun h => by rw [HS.out]; exact span_stop h
      have HBL : Hid (blankB (bt s k) = ((bt s k == 32) || (bt s k == 10))) := rfl
      have hU : ∀ q, (wr.drewN q).setCell ⟨b, 1, none⟩ (.int .i64 ((k : Int) + 1)) = (wr.drewN q).setCell ⟨b, 1, none⟩ (.int .i64 ((k + 1 : Nat) : Int)) := fun _ => rfl
      have HR2 : Hid (∀ q, RBox ((wr.drewN q).setCell ⟨b, 1, none⟩ (.int .i64 ((k : Int) + 1))) b s (k + 1) n ∧ Away b w ((wr.drewN q).setCell ⟨b, 1, none⟩ (.int .i64 ((k : Int) + 1)))) := fun q =>
        ⟨(Hr.out.kept (below_drewN wr q)).setAt (k + 1), (HA.out.trans (Away.of (below_drewN wr q))).trans (Away.set _ _ _ _)⟩
      clear hU
      have HE : Hid (∀ q, (∃ k_1, k_1 ≤ s.size ∧ RBox ((wr.drewN q).setCell ⟨b, 1, none⟩ (.int .i64 ((k : Int) + 1))) b s k_1 n ∧ Hid (skipB s (k + 1) = skipB s k_1) ∧ Away b w ((wr.drewN q).setCell ⟨b, 1, none⟩ (.int .i64 ((k : Int) + 1)))) ∧ s.size - posOf ((wr.drewN q).setCell ⟨b, 1, none⟩ (.int .i64 ((k : Int) + 1))) b < s.size - posOf wr b) := fun q =>
        ⟨⟨k + 1, by omega, (HR2.out q).1, rfl, (HR2.out q).2⟩, by rw [(HR2.out q).1.pos, Hr.out.pos]; omega⟩
      have HD : Hid (∀ q, RBox (wr.drewN q) b s k n ∧ Away b w (wr.drewN q)) := fun q => ⟨Hr.out.kept (below_drewN wr q), HA.out.trans (Away.of (below_drewN wr q))⟩
      cases h32 : (bt s k == 32) with
      | true =>
        have HS2 := hidI (HY.out (by rw [HBL.out, h32]; rfl))
        go_wp2_with fail
        go_quiet (fail)
        go_wp2_with fail
        rw [HS2.out]
        exact HE.out _
      | false =>
        cases h10 : (bt s k == 10) with
        | true =>
          have HS2 := hidI (HY.out (by rw [HBL.out, h32, h10]; rfl))
          go_wp2_with fail
          go_quiet (fail)
          go_wp2_with fail
          rw [HS2.out]
          exact HE.out _
        | false =>
          have HS2 := hidI (HN.out (by rw [HBL.out, h32, h10]; rfl))
          go_wp2_with fail
          go_quiet (fail)
          go_wp2_with fail
          go_end0
          exact ⟨rfl, by rw [HS2.out]; exact (HD.out _).1, (HD.out _).2⟩
    · have hlt' : ¬ (k : Int) < (s.size : Int) := by omega
      have HS2 : Hid (skipB s i = k) := by rw [HS.out]; exact span_end (by omega)
      have HD : Hid (∀ q, RBox (wr.drewN q) b s k n ∧ Away b w (wr.drewN q)) := fun q => ⟨Hr.out.kept (below_drewN wr q), HA.out.trans (Away.of (below_drewN wr q))⟩
      go_wp2_with fail
      go_quiet (fail)
      go_wp2_with fail
      go_end0
      exact ⟨rfl, by rw [HS2.out]; exact (HD.out _).1, (HD.out _).2⟩

set_option maxRecDepth 100000 in
set_option maxHeartbeats 1000000 in
theorem comes_any (b : Nat) (s : ByteArray) (i n : Nat) (c : Int) (w : World) (hb : RBox w b s i n) (hi : i ≤ s.size) (hs : s.size ≤ 1000) :
    Calls Try.prog 93 #[.pointer (some ⟨b, 0, none⟩), .int .u8 c] w fun e w' => e = .returned (.bool (isAt s (skipB s i) c)) ∧ RBox w' b s (skipB s i) n ∧ Away b w w' := by
  have hg := get_bt s
  have hcl := blanks_any b s i n w hb hi hs
  have hk := skip_le hi
  clear hb
  generalize skipB s i = k at *
  go_enter Try.func93, Try.ntmps93
  go_wp2_with fail
  refine hcl.mono ?_
  clear hcl
  rintro e w1 ⟨rfl, hr, hA⟩
  have c0 := hr.c0
  have c1 := hr.c1
  have HD : Hid (∀ q, RBox (w1.drewN q) b s k n ∧ Away b w (w1.drewN q)) := fun q => ⟨hr.kept (below_drewN w1 q), hA.trans (Away.of (below_drewN w1 q))⟩
  clear hr hA
  by_cases hlt : k < s.size
  · have hlt' : (k : Int) < (s.size : Int) := by omega
    have hk0 : (0 : Int) ≤ (k : Int) := by omega
    have HF : Hid (isAt s k c = (bt s k == c)) := by unfold isAt; rw [decide_eq_true hlt]; rfl
    go_wp2_with fail
    go_quiet (fail)
    go_wp2_with fail
    go_ret
    exact ⟨by rw [HF.out]; rfl, (HD.out _).1, (HD.out _).2⟩
  · have hlt' : ¬ (k : Int) < (s.size : Int) := by omega
    have HF : Hid (isAt s k c = false) := by unfold isAt; rw [decide_eq_false hlt]; rfl
    go_wp2_with fail
    go_quiet (fail)
    go_wp2_with fail
    go_ret
    exact ⟨by rw [HF.out]; rfl, (HD.out _).1, (HD.out _).2⟩

set_option maxRecDepth 100000 in
set_option maxHeartbeats 1000000 in
theorem sign_any (b : Nat) (s : ByteArray) (i n : Nat) (c : Int) (w : World) (hb : RBox w b s i n) (hi : i ≤ s.size) (hs : s.size ≤ 1000) :
    Calls Try.prog 61 #[.pointer (some ⟨b, 0, none⟩), .int .u8 c] w fun e w' => (∀ j, pSign s c i = .ok j → e = .returned (.tuple #[]) ∧ RBox w' b s j n) ∧ (∀ x, pSign s c i = .error x → e = .panicked (thrown x)) ∧ Away b w w' := by
  have hcl := comes_any b s i n c w hb hi hs
  have hk := skip_le hi
  have HE : Hid (pSign s c i = if isAt s (skipB s i) c then .ok (skipB s i + 1) else .error (2, skipB s i)) := rfl
  clear hb
  generalize skipB s i = k at *
  generalize isAt s k c = y at *
  go_enter Try.func61, Try.ntmps61
  go_wp2_with fail
  refine hcl.mono ?_
  clear hcl
  rintro e w1 ⟨rfl, hr, hA⟩
  have c1 := hr.c1
  have f1 := hr.f1
  cases y with
  | true =>
    have HF : Hid (pSign s c i = .ok (k + 1)) := by rw [HE.out]; rfl
    have HR : Hid (RBox (w1.setCell ⟨b, 1, none⟩ (.int .i64 ((k : Int) + 1))) b s (k + 1) n) := hr.setAt (k + 1)
    have HA : Hid (Away b w (w1.setCell ⟨b, 1, none⟩ (.int .i64 ((k : Int) + 1)))) := hA.trans (Away.set _ _ _ _)
    clear hr hA HE
    go_wp2_with fail
    go_end0
    exact ⟨fun j h => (by rw [HF.out] at h; cases h; exact ⟨rfl, HR.out⟩), fun x h => (by rw [HF.out] at h; cases h), HA.out⟩
  | false =>
    have HF : Hid (pSign s c i = .error (2, k)) := by rw [HE.out]; rfl
    have hth := throw_any 2 k w1
    have HA := hidI hA
    clear hr hA HE
    go_wp2_with fail
    refine hth.mono ?_
    clear hth
    rintro e w2 ⟨rfl, rfl⟩
    exact ⟨rfl, fun j h => (by rw [HF.out] at h; cases h), fun x h => (by rw [HF.out] at h; cases h; rfl), HA.out⟩
end Go.Proofs.Ytjjggefmmeminab
