/-
  The contracts of stitchref4.SamePicks and Same: picks that are alike, wherever they lie.
-/
import Derived.Test.YtjjggefmmeminabQyMem
import Derived.BigQuiet
import Derived.Handy
namespace Go.Proofs.Ytjjggefmmeminab
open Go.RowKit Go.Sort Go.PlainAid

/-- The same picks, however deep each may go. -/
def Alike : (d d' : Nat) → List (Pick d) → List (Pick d') → Prop
  | 0, _, _, M => M.length = 0
  | _ + 1, 0, L, _ => L.length = 0
  | d + 1, d' + 1, L, M => L.length = M.length ∧ ∀ i, i < L.length → nick (pickN L i) = nick (pickN M i) ∧ pfield (pickN L i) = pfield (pickN M i) ∧ Alike d d' (subs (pickN L i)) (subs (pickN M i))
theorem Alike.len {d d' : Nat} {L : List (Pick d)} {M : List (Pick d')} (h : Alike d d' L M) : L.length = M.length := by
  cases d with
  | zero => have h1 : M.length = 0 := h; rw [nil0 L, h1]; rfl
  | succ d =>
    cases d' with
    | zero => have h1 : L.length = 0 := h; rw [nil0 M, h1]; rfl
    | succ d' => exact h.1
theorem alike_refl : ∀ (d : Nat) (L : List (Pick d)), Alike d d L L
  | 0, L => by show L.length = 0; rw [nil0 L]; rfl
  | d + 1, L => ⟨rfl, fun i _ => ⟨rfl, rfl, alike_refl d _⟩⟩

def SameOk (d : Nat) : Prop := ∀ (d' : Nat) (a b : Option Addr) (c c' : Nat) (L : List (Pick d)) (M : List (Pick d')) (w : World), PicksAt w d a L → PicksAt w d' b M → Alike d d' L M →
    Calls Try.prog 34 #[.slice a L.length c, .slice b M.length c'] w fun e w' => e = .returned (.bool true) ∧ Below w.heap.size w w'

set_option maxRecDepth 100000 in
set_option maxHeartbeats 2000000 in
theorem same_of (d : Nat) (hp : ∀ d', d = d' + 1 → SameOk d') : SameOk d := by
  intro d' a b c c' L M w hP hQ hA
  have hn : L.length ≤ 9223372036854775807 := hP.max
  have hl := hA.len
  have HP := hidI hP
  have HQ := hidI hQ
  have HA := hidI hA
  clear hP hQ hA
  rw [← hl]
  have hne : ((L.length : Int) != (L.length : Int)) = false := by simp
  go_enter Try.func34, Try.ntmps34
  go_wp2_with fail
  go_loopw [13] (fun i wr => ∃ k : Nat, k ≤ L.length ∧ i = .int .i64 k ∧ Below w.heap.size w wr) (fun i _ => L.length - (intOf i).toNat)
  case atStart => exact ⟨0, Nat.zero_le _, rfl, Below.refl _ _⟩
  case round =>
    obtain ⟨k, hk, rfl, hw⟩ := hrel
    by_cases hlt : k < L.length
    · cases d with
      | zero => exact absurd hlt (by rw [nil0 L]; exact Nat.not_lt_zero _)
      | succ d =>
      cases d' with
      | zero => exact absurd hlt (by rw [hl, nil0 M]; exact Nat.not_lt_zero _)
      | succ d' =>
      obtain ⟨pb, po, A, C, ha, c0, c1, c2, hC, -, -, hs⟩ := (HP.out.kept hw).2 k hlt
      obtain ⟨qb, qo, B, D, hb, e0, e1, e2, hD, -, -, ht⟩ := (HQ.out.kept hw).2 k (by omega)
      subst ha
      subst hb
      obtain ⟨h1, h2, h3⟩ := HA.out.2 k hlt
      rw [← h1] at e0
      rw [← h2] at e1
      have hlt' : (k : Int) < (L.length : Int) := by omega
      have hk0 : (0 : Int) ≤ (k : Int) := by omega
      have x0 := cell_regrown c0
      have x1 := cell_regrown c1
      have x2 := cell_regrown c2
      have y0 := cell_regrown e0
      have y1 := cell_regrown e1
      have y2 := cell_regrown e2
      have cA : ∀ d1 os, Calls Try.prog 34 #[.slice A (subs (pickN L k)).length C, .slice B (subs (pickN M k)).length D] (grow (redrawn wr d1) os) fun e w'' => e = .returned (.bool true) ∧ ∃ p : Regrown, w'' = grow (redrawn wr p.d) p.os := fun d1 os => Calls.regrown_of (hp d rfl d' A B C D _ _ _ (hs.kept (below_regrown wr d1 os)) (ht.kept (below_regrown wr d1 os)) h3)
      have HW := hidI hw
      clear c0 c1 c2 e0 e1 e2 hs ht hw h1 h2 h3
      go_wp2_with fail
      refine wp_region_quiet_below (by kernel_rfl) (by kernel_rfl) ?_
      repeat (go_big_quiet_step (first | exact cA _ _))
      refine wpQuiet_nil ?_
      intro _ hw'
      obtain ⟨⟨dq, osq⟩, hw''⟩ := hw'
      subst hw''
      have hB := below_regrown wr dq osq
      have HB : Hid (Below w.heap.size w (grow (redrawn wr dq) osq)) := HW.out.trans (hB.mono HW.out.size)
      clear hB cA x0 x1 x2 y0 y1 y2
      generalize grow (redrawn wr dq) osq = w3 at *
      go_wp2_with fail
      go_roundw
      case rel => exact ⟨k + 1, by omega, by go_num, HB.out⟩
      case measure => simp [intOf]; omega
    · go_wp2_with fail
      go_ret
      exact ⟨rfl, hw⟩
theorem samePicks_any : ∀ d, SameOk d
  | 0 => same_of 0 (fun _ h => by omega)
  | d + 1 => same_of (d + 1) (fun d' h => by cases h; exact samePicks_any d)

set_option maxRecDepth 100000 in
set_option maxHeartbeats 1000000 in
theorem same_any (d d' : Nat) (type key : ByteArray) (a b : Option Addr) (c c' : Nat) (L : List (Pick d)) (M : List (Pick d')) (w : World) (hP : PicksAt w d a L) (hQ : PicksAt w d' b M) (hA : Alike d d' L M) :
    Calls Try.prog 15 #[.agg #[.string type, .string key, .slice a L.length c], .agg #[.string type, .string key, .slice b M.length c']] w fun e w' => e = .returned (.bool true) ∧ Below w.heap.size w w' := by
  have hB := below2 w (Obj.cells #[.string type, .string key, .slice a L.length c] 24) (Obj.cells #[.string type, .string key, .slice b M.length c'] 24)
  have hcl := samePicks_any d d' a b c c' L M _ (hP.kept hB) (hQ.kept hB) hA
  have HB := hidI hB
  have hlt : w.heap.size < w.heap.size + 1 := by omega
  clear hB hP hQ hA
  go_enter Try.func15, Try.ntmps15
  go_wp2_with fail
  refine hcl.mono ?_
  clear hcl
  rintro e w1 ⟨rfl, hw1⟩
  have HB1 : Hid (Below w.heap.size w w1) := HB.out.trans (hw1.mono HB.out.size)
  clear hw1
  go_wp2_with fail
  go_ret
  exact ⟨rfl, HB1.out⟩
end Go.Proofs.Ytjjggefmmeminab
