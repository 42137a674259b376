/-
  The contracts of stitchref4.Walk's ok, stop, skip, on, need and name.
-/
import Derived.Test.YtjjggefmmeminaaQpFree
namespace Go.Proofs.Ytjjggefmmeminaa
open Go.RowKit Go.Sort Go.PlainAid

/-- A walk's own variable: the text, where it stands, how many picks there are, what is wrong, and where. -/
def WBox (w : World) (b : Nat) (s : ByteArray) (i n : Nat) (e k : Int) : Prop := w.heap[b]? = some (.cells #[.string s, .int .i64 (i : Int), .int .i64 (n : Int), .int .i64 e, .int .i64 k] 138 (0, 0))
section
variable {w w' : World} {b : Nat} {s : ByteArray} {i n : Nat} {e k : Int}
theorem WBox.c0 (h : WBox w b s i n e k) : w.cell? ⟨b, 0, none⟩ = some (.string s) := by simp [World.cell?, show w.heap[b]? = _ from h]
theorem WBox.c1 (h : WBox w b s i n e k) : w.cell? ⟨b, 1, none⟩ = some (.int .i64 (i : Int)) := by simp [World.cell?, show w.heap[b]? = _ from h]
theorem WBox.c2 (h : WBox w b s i n e k) : w.cell? ⟨b, 2, none⟩ = some (.int .i64 (n : Int)) := by simp [World.cell?, show w.heap[b]? = _ from h]
theorem WBox.c3 (h : WBox w b s i n e k) : w.cell? ⟨b, 3, none⟩ = some (.int .i64 e) := by simp [World.cell?, show w.heap[b]? = _ from h]
theorem WBox.c4 (h : WBox w b s i n e k) : w.cell? ⟨b, 4, none⟩ = some (.int .i64 k) := by simp [World.cell?, show w.heap[b]? = _ from h]
theorem WBox.free (h : WBox w b s i n e k) (j : Nat) : w.frozen? ⟨b, j, none⟩ = false := by simp [World.frozen?, show w.heap[b]? = _ from h]
theorem WBox.f1 (h : WBox w b s i n e k) : w.frozen? ⟨b, 1, none⟩ = false := h.free 1
theorem WBox.lt (h : WBox w b s i n e k) : b < w.heap.size := block_lt_of_cell h.c0
theorem WBox.setAt (h : WBox w b s i n e k) (j : Nat) : WBox (w.setCell ⟨b, 1, none⟩ (.int .i64 (j : Int))) b s j n e k := heap_setCell_same w b 1 _ 138 _ h
theorem WBox.setN (h : WBox w b s i n e k) (j : Nat) : WBox (w.setCell ⟨b, 2, none⟩ (.int .i64 (j : Int))) b s i j e k := heap_setCell_same w b 2 _ 138 _ h
theorem WBox.setE (h : WBox w b s i n e k) (x : Int) : WBox (w.setCell ⟨b, 3, none⟩ (.int .i64 x)) b s i n x k := heap_setCell_same w b 3 _ 138 _ h
theorem WBox.setK (h : WBox w b s i n e k) (x : Int) : WBox (w.setCell ⟨b, 4, none⟩ (.int .i64 x)) b s i n e x := heap_setCell_same w b 4 _ 138 _ h
theorem WBox.kept (h : WBox w b s i n e k) (hB : Below w.heap.size w w') : WBox w' b s i n e k := (hB.block b h.lt).trans h
theorem WBox.other {r o : Nat} {v : Value} (h : WBox w b s i n e k) (hr : b ≠ r) : WBox (w.setCell ⟨r, o, none⟩ v) b s i n e k := (Below.heap_setCell w ⟨r, o, none⟩ v b hr).trans h
theorem WBox.pos (h : WBox w b s i n e k) : posOf w b = i := by unfold posOf; rw [h.c1]; simp [intOf]
end
/-- Something was wrong. -/
def WBad (w : World) (b : Nat) (s : ByteArray) (x : Int × Nat) : Prop := x.1 ≠ 0 ∧ ∃ i n : Nat, i ≤ s.size ∧ WBox w b s i n x.1 (x.2 : Int)
theorem WBad.kept {w w' : World} {b : Nat} {s : ByteArray} {x : Int × Nat} (h : WBad w b s x) (hB : Below w.heap.size w w') : WBad w' b s x := let ⟨h0, i, n, hi, hb⟩ := h; ⟨h0, i, n, hi, hb.kept hB⟩
theorem WBad.other {w : World} {b : Nat} {s : ByteArray} {x : Int × Nat} {r o : Nat} {v : Value} (h : WBad w b s x) (hr : b ≠ r) : WBad (w.setCell ⟨r, o, none⟩ v) b s x := let ⟨h0, i, n, hi, hb⟩ := h; ⟨h0, i, n, hi, hb.other hr⟩
theorem WBad.lt {w : World} {b : Nat} {s : ByteArray} {x : Int × Nat} (h : WBad w b s x) : b < w.heap.size := let ⟨_, _, _, _, hb⟩ := h; hb.lt

set_option maxRecDepth 100000 in
set_option maxHeartbeats 400000 in
theorem ok_any (b : Nat) (s : ByteArray) (i n : Nat) (e k : Int) (w : World) (hb : WBox w b s i n e k) :
    Calls Try.prog 89 #[.pointer (some ⟨b, 0, none⟩)] w fun r w' => r = .returned (.bool (e == 0)) ∧ w' = w := by
  have c3 := hb.c3
  clear hb
  go_enter Try.func89, Try.ntmps89
  go_wp2_with fail
  go_ret
  exact ⟨rfl, rfl⟩
set_option maxRecDepth 100000 in
set_option maxHeartbeats 400000 in
theorem stop_ok (b : Nat) (s : ByteArray) (i n : Nat) (x : Int) (w : World) (hb : WBox w b s i n 0 0) :
    Calls Try.prog 92 #[.pointer (some ⟨b, 0, none⟩), .int .i64 x] w fun r w' => r = .returned (.tuple #[]) ∧ WBox w' b s i n x (i : Int) ∧ Away b w w' := by
  have hcl := ok_any b s i n 0 0 w hb
  have c1 := hb.c1
  have c3 := hb.c3
  have c4 := hb.c4
  have f3 := hb.free 3
  have f4 := hb.free 4
  have HR : Hid (WBox ((w.setCell ⟨b, 3, none⟩ (.int .i64 x)).setCell ⟨b, 4, none⟩ (.int .i64 (i : Int))) b s i n x (i : Int)) := (hb.setE x).setK _
  have HA : Hid (Away b w ((w.setCell ⟨b, 3, none⟩ (.int .i64 x)).setCell ⟨b, 4, none⟩ (.int .i64 (i : Int)))) := (Away.set w b 3 _).trans (Away.set _ b 4 _)
  clear hb
  go_enter Try.func92, Try.ntmps92
  go_wp2_with fail
  refine hcl.mono ?_
  clear hcl
  rintro r w1 ⟨rfl, rfl⟩
  go_wp2_with fail
  go_end0
  exact ⟨rfl, HR.out, HA.out⟩
set_option maxRecDepth 100000 in
set_option maxHeartbeats 400000 in
theorem stop_bad (b : Nat) (s : ByteArray) (y : Int × Nat) (x : Int) (w : World) (hb : WBad w b s y) :
    Calls Try.prog 92 #[.pointer (some ⟨b, 0, none⟩), .int .i64 x] w fun r w' => r = .returned (.tuple #[]) ∧ w' = w := by
  obtain ⟨h0, i, n, -, hb⟩ := hb
  have hcl := ok_any b s i n y.1 y.2 w hb
  have h0' : (y.1 == 0) = false := by simpa using h0
  rw [h0'] at hcl
  clear hb h0 h0'
  go_enter Try.func92, Try.ntmps92
  go_wp2_with fail
  refine hcl.mono ?_
  clear hcl
  rintro r w1 ⟨rfl, rfl⟩
  go_wp2_with fail
  go_end0
  exact ⟨rfl, rfl⟩

set_option maxRecDepth 100000 in
set_option maxHeartbeats 1000000 in
theorem rskip_any (b : Nat) (s : ByteArray) (i n : Nat) (x0 k0 : Int) (w : World) (hb : WBox w b s i n x0 k0) (hi : i ≤ s.size) (hs : s.size ≤ 1000) :
    Calls Try.prog 91 #[.pointer (some ⟨b, 0, none⟩)] w fun e w' => e = .returned (.tuple #[]) ∧ WBox w' b s (skipB s i) n x0 k0 ∧ Away b w w' := by
  have hg := get_bt s
  have Hb := hidI hb
  clear hb
  go_enter Try.func91, Try.ntmps91
  go_wp2_with fail
  go_loopw [] (fun wr => ∃ k : Nat, k ≤ s.size ∧ WBox wr b s k n x0 k0 ∧ Hid (skipB s i = skipB s k) ∧ Away b w wr) (fun wr => s.size - posOf wr b)
  case atStart => exact ⟨i, hi, Hb.out, rfl, Away.refl _ _⟩
  case round =>
    obtain ⟨k, hk, hr, HS, hA⟩ := hrel
    have c0 := hr.c0
    have c1 := hr.c1
    have f1 := hr.f1
    have Hr := hidI hr
    have HA := hidI hA
    clear hr hA
    by_cases hlt : k < s.size
    · have hlt' : (k : Int) < (s.size : Int) := by omega
      have hk0 : (0 : Int) ≤ (k : Int) := by omega
      have HY : Hid (blankB (bt s k) = true → skipB s i = skipB s (k + 1)) := fun h => by rw [HS.out]; exact span_step hlt h
      have HN : Hid (blankB (bt s k) = false → skipB s i = k) := fun h => by rw [HS.out]; exact span_stop h
      have HBL : Hid (blankB (bt s k) = ((bt s k == 32) || (bt s k == 10))) := rfl
      have hU : ∀ q, (wr.drewN q).setCell ⟨b, 1, none⟩ (.int .i64 ((k : Int) + 1)) = (wr.drewN q).setCell ⟨b, 1, none⟩ (.int .i64 ((k + 1 : Nat) : Int)) := fun _ => rfl
      have HR2 : Hid (∀ q, WBox ((wr.drewN q).setCell ⟨b, 1, none⟩ (.int .i64 ((k : Int) + 1))) b s (k + 1) n x0 k0 ∧ Away b w ((wr.drewN q).setCell ⟨b, 1, none⟩ (.int .i64 ((k : Int) + 1)))) := fun q =>
        ⟨(Hr.out.kept (below_drewN wr q)).setAt (k + 1), (HA.out.trans (Away.of (below_drewN wr q))).trans (Away.set _ _ _ _)⟩
      clear hU
      have HE : Hid (∀ q, (∃ k_1, k_1 ≤ s.size ∧ WBox ((wr.drewN q).setCell ⟨b, 1, none⟩ (.int .i64 ((k : Int) + 1))) b s k_1 n x0 k0 ∧ Hid (skipB s (k + 1) = skipB s k_1) ∧ Away b w ((wr.drewN q).setCell ⟨b, 1, none⟩ (.int .i64 ((k : Int) + 1)))) ∧ s.size - posOf ((wr.drewN q).setCell ⟨b, 1, none⟩ (.int .i64 ((k : Int) + 1))) b < s.size - posOf wr b) := fun q =>
        ⟨⟨k + 1, by omega, (HR2.out q).1, rfl, (HR2.out q).2⟩, by rw [(HR2.out q).1.pos, Hr.out.pos]; omega⟩
      have HD : Hid (∀ q, WBox (wr.drewN q) b s k n x0 k0 ∧ Away b w (wr.drewN q)) := fun q => ⟨Hr.out.kept (below_drewN wr q), HA.out.trans (Away.of (below_drewN wr q))⟩
      cases h32 : (bt s k == 32) with
      | true =>
        have HS2 := hidI (HY.out (by rw [HBL.out, h32]; rfl))
        go_wp2_with fail
        go_quiet (fail)
        go_wp2_with fail
        rw [HS2.out]
        exact HE.out _
      | false =>
        cases h10 : (bt s k == 10) with
        | true =>
          have HS2 := hidI (HY.out (by rw [HBL.out, h32, h10]; rfl))
          go_wp2_with fail
          go_quiet (fail)
          go_wp2_with fail
          rw [HS2.out]
          exact HE.out _
        | false =>
          have HS2 := hidI (HN.out (by rw [HBL.out, h32, h10]; rfl))
          go_wp2_with fail
          go_quiet (fail)
          go_wp2_with fail
          go_end0
          exact ⟨rfl, by rw [HS2.out]; exact (HD.out _).1, (HD.out _).2⟩
    · have hlt' : ¬ (k : Int) < (s.size : Int) := by omega
      have HS2 : Hid (skipB s i = k) := by rw [HS.out]; exact span_end (by omega)
      have HD : Hid (∀ q, WBox (wr.drewN q) b s k n x0 k0 ∧ Away b w (wr.drewN q)) := fun q => ⟨Hr.out.kept (below_drewN wr q), HA.out.trans (Away.of (below_drewN wr q))⟩
      go_wp2_with fail
      go_quiet (fail)
      go_wp2_with fail
      go_end0
      exact ⟨rfl, by rw [HS2.out]; exact (HD.out _).1, (HD.out _).2⟩


set_option maxRecDepth 100000 in
set_option maxHeartbeats 1000000 in
theorem on_ok (b : Nat) (s : ByteArray) (i n : Nat) (c : Int) (w : World) (hb : WBox w b s i n 0 0) (hi : i ≤ s.size) (hs : s.size ≤ 1000) :
    Calls Try.prog 116 #[.pointer (some ⟨b, 0, none⟩), .int .u8 c] w fun e w' => e = .returned (.bool (isAt s (skipB s i) c)) ∧ WBox w' b s (skipB s i) n 0 0 ∧ Away b w w' := by
  have hg := get_bt s
  have hcl := ok_any b s i n 0 0 w hb
  have hcl2 := rskip_any b s i n 0 0 w hb hi hs
  have hk := skip_le hi
  clear hb
  generalize skipB s i = k at *
  go_enter Try.func116, Try.ntmps116
  go_wp2_with fail
  refine hcl.mono ?_
  clear hcl
  rintro r w0 ⟨rfl, rfl⟩
  go_wp2_with fail
  refine hcl2.mono ?_
  clear hcl2
  rintro e w1 ⟨rfl, hr, hA⟩
  have c0 := hr.c0
  have c1 := hr.c1
  have HD : Hid (∀ q, WBox (w1.drewN q) b s k n 0 0 ∧ Away b w0 (w1.drewN q)) := fun q => ⟨hr.kept (below_drewN w1 q), hA.trans (Away.of (below_drewN w1 q))⟩
  clear hr hA
  by_cases hlt : k < s.size
  · have hlt' : (k : Int) < (s.size : Int) := by omega
    have hk0 : (0 : Int) ≤ (k : Int) := by omega
    have HF : Hid (isAt s k c = (bt s k == c)) := by unfold isAt; rw [decide_eq_true hlt]; rfl
    go_wp2_with fail
    go_quiet (fail)
    go_wp2_with fail
    go_ret
    exact ⟨by rw [HF.out]; rfl, (HD.out _).1, (HD.out _).2⟩
  · have hlt' : ¬ (k : Int) < (s.size : Int) := by omega
    have HF : Hid (isAt s k c = false) := by unfold isAt; rw [decide_eq_false hlt]; rfl
    go_wp2_with fail
    go_quiet (fail)
    go_wp2_with fail
    go_ret
    exact ⟨by rw [HF.out]; rfl, (HD.out _).1, (HD.out _).2⟩
set_option maxRecDepth 100000 in
set_option maxHeartbeats 1000000 in
theorem on_bad (b : Nat) (s : ByteArray) (y : Int × Nat) (c : Int) (w : World) (hb : WBad w b s y) :
    Calls Try.prog 116 #[.pointer (some ⟨b, 0, none⟩), .int .u8 c] w fun e w' => e = .returned (.bool false) ∧ w' = w := by
  obtain ⟨h0, i, n, -, hb⟩ := hb
  have hcl := ok_any b s i n y.1 y.2 w hb
  have h0' : (y.1 == 0) = false := by simpa using h0
  rw [h0'] at hcl
  clear hb h0 h0'
  go_enter Try.func116, Try.ntmps116
  go_wp2_with fail
  refine hcl.mono ?_
  clear hcl
  rintro r w1 ⟨rfl, rfl⟩
  go_wp2_with fail
  go_ret
  exact ⟨rfl, rfl⟩
set_option maxRecDepth 100000 in
set_option maxHeartbeats 1000000 in
theorem need_ok (b : Nat) (s : ByteArray) (i n : Nat) (c : Int) (w : World) (hb : WBox w b s i n 0 0) (hi : i ≤ s.size) (hs : s.size ≤ 1000) :
    Calls Try.prog 88 #[.pointer (some ⟨b, 0, none⟩), .int .u8 c] w fun e w' => e = .returned (.tuple #[]) ∧ (∀ j, pSign s c i = .ok j → WBox w' b s j n 0 0) ∧ (∀ x, pSign s c i = .error x → WBad w' b s x) ∧ Away b w w' := by
  have hcl := on_ok b s i n c w hb hi hs
  have hk := skip_le hi
  have HE : Hid (pSign s c i = if isAt s (skipB s i) c then .ok (skipB s i + 1) else .error (2, skipB s i)) := rfl
  clear hb
  generalize skipB s i = k at *
  generalize isAt s k c = y at *
  go_enter Try.func88, Try.ntmps88
  go_wp2_with fail
  refine hcl.mono ?_
  clear hcl
  rintro e w1 ⟨rfl, hr, hA⟩
  cases y with
  | true =>
    have c1 := hr.c1
    have f1 := hr.f1
    have HF : Hid (pSign s c i = .ok (k + 1)) := by rw [HE.out]; rfl
    have HR : Hid (WBox (w1.setCell ⟨b, 1, none⟩ (.int .i64 ((k : Int) + 1))) b s (k + 1) n 0 0) := hr.setAt (k + 1)
    have HA : Hid (Away b w (w1.setCell ⟨b, 1, none⟩ (.int .i64 ((k : Int) + 1)))) := hA.trans (Away.set _ _ _ _)
    clear hr hA HE
    go_wp2_with fail
    first | go_end0 | refine bodyPost_ret (results_none rfl _ _ _) rfl ?_
    exact ⟨rfl, fun j h => (by rw [HF.out] at h; cases h; exact HR.out), fun x h => (by rw [HF.out] at h; cases h), HA.out⟩
  | false =>
    have HF : Hid (pSign s c i = .error (2, k)) := by rw [HE.out]; rfl
    have hst := stop_ok b s k n 2 w1 hr
    have HA := hidI hA
    clear hr hA HE
    go_wp2_with fail
    refine hst.mono ?_
    clear hst
    rintro e w2 ⟨rfl, hb2, hA2⟩
    have HB2 : Hid (WBad w2 b s (2, k)) := ⟨by show (2 : Int) ≠ 0; decide, k, n, hk, hb2⟩
    have HA2 : Hid (Away b w w2) := HA.out.trans hA2
    clear hb2 hA2
    go_wp2_with fail
    go_end0
    exact ⟨rfl, fun j h => (by rw [HF.out] at h; cases h), fun x h => (by rw [HF.out] at h; cases h; exact HB2.out), HA2.out⟩
set_option maxRecDepth 100000 in
set_option maxHeartbeats 1000000 in
theorem need_bad (b : Nat) (s : ByteArray) (y : Int × Nat) (c : Int) (w : World) (hb : WBad w b s y) :
    Calls Try.prog 88 #[.pointer (some ⟨b, 0, none⟩), .int .u8 c] w fun e w' => e = .returned (.tuple #[]) ∧ w' = w := by
  have hcl := on_bad b s y c w hb
  have hst := stop_bad b s y 2 w hb
  clear hb
  go_enter Try.func88, Try.ntmps88
  go_wp2_with fail
  refine hcl.mono ?_
  clear hcl
  rintro e w1 ⟨rfl, rfl⟩
  go_wp2_with fail
  refine hst.mono ?_
  clear hst
  rintro e w2 ⟨rfl, rfl⟩
  go_wp2_with fail
  go_end0
  exact ⟨rfl, rfl⟩
end Go.Proofs.Ytjjggefmmeminaa
