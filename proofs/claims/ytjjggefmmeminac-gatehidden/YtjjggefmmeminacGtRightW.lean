import Derived.Test.YtjjggefmmeminacGtAlive
import Derived.Test.YtjjggefmmeminacSvWrong
import Derived.Test.YtjjggefmmeminacJGq
/-
  The walk of stitchlaw7.GateRight, of a gate.Run that keeps its promise: it answers true.
-/
namespace Go.Proofs.Ytjjggefmmeminac
open Go.RowKit Go.Sort Go.PlainAid

theorem reqs_right {n : Nat} {V : Nat → LServ} {d : Nat} {type key : ByteArray} {ps : List (Pick d)} (h : meanE n V d type key ps = 0) : n ≤ 5 ∧ ∀ r, r ∈ reqs n V d type key ps → ReqR n V r := by
  have hr : reqs n V d type key ps = asks V (allP (ntS V) (seenA V) n) d (pOf (allP (ntS V) (seenA V) n) type) [key] ps := by unfold reqs; rw [if_pos h]
  obtain ⟨h0, hc, -⟩ := meanE_zero.1 h
  obtain ⟨-, hpi, hcR⟩ := cA_wA hc
  exact ⟨(wrongF_ok (allF_wrong h0)).1, fun r hm => asks_right h0 d type [key] ps [] hpi (by simp) (by simp) hcR r (by rw [← hr]; exact hm)⟩
set_option maxRecDepth 100000 in
set_option maxHeartbeats 4000000 in
theorem gateRight_any (hRun : RunOk 8) (a : Option Addr) (n cap : Nat) (V : Nat → LServ) (d : Nat) (type key : ByteArray) (pa : Option Addr) (pcap : Nat) (ps : List (Pick d)) (w : World) (hS : ServsAt w a n V) (hP : PicksAt w d pa ps) (hcap : ps.length ≤ pcap) (hs0 : Small type) (hs1 : Small key) :
    Calls Try.prog 3 #[.slice a n cap, .agg #[.string type, .string key, .slice pa ps.length pcap]] w fun e w' => e = .returned (.bool true) ∧ Below w.heap.size w w' := by
  have HS := Hid.intro hS
  have HP := Hid.intro hP
  generalize hW : w.alloc (Obj.cells #[.string type, .string key, .slice pa ps.length pcap] 25) = W
  have hBW : Below w.heap.size w W := by rw [← hW]; exact below1 _ _
  have a0 : W.cell? ⟨w.heap.size, 0, none⟩ = some (.string type) := by rw [← hW, World.cell?_alloc_at _ _ _ _ rfl]; rfl
  have a1 : W.cell? ⟨w.heap.size, 1, none⟩ = some (.string key) := by rw [← hW, World.cell?_alloc_at _ _ _ _ rfl]; rfl
  have a2 : W.cell? ⟨w.heap.size, 2, none⟩ = some (.slice pa ps.length pcap) := by rw [← hW, World.cell?_alloc_at _ _ _ _ rfl]; rfl
  have hcl := alive7_any hRun W
  have HBW := Hid.intro hBW
  have HRun := Hid.intro hRun
  clear hS hP hBW hRun
  go_enter Try.func3, Try.ntmps3
  go_wp2_with fail
  clear hW
  refine hcl.mono ?_
  clear hcl
  rintro e w1 ⟨rfl, hw1⟩
  have HB1 := Hid.intro (HBW.out.trans (hw1.mono HBW.out.size))
  have a0 := keptCell hw1 a0
  have a1 := keptCell hw1 a1
  have a2 := keptCell hw1 a2
  have hcl := HRun.out a n cap V d type key pa pcap ps w1 (HS.out.kept HB1.out) (HP.out.kept HB1.out) hcap hs0 hs1
  clear hw1 HBW HRun HP
  have HF : Hid (meanE n V d type key ps = 0 → n ≤ 5 ∧ ∀ r, r ∈ reqs n V d type key ps → ReqR n V r) := Hid.intro reqs_right
  generalize meanG n V d type key ps = M at *
  generalize meanE n V d type key ps = x at *
  generalize reqs n V d type key ps = R at *
  go_wp2_with fail
  refine hcl.mono ?_
  clear hcl
  rintro e w2 ⟨⟨va, vc, qa, qc, rfl, -, -, -, hR⟩, hw2⟩
  have HB2 := Hid.intro (HB1.out.trans (hw2.mono HB1.out.size))
  have HR := Hid.intro hR
  have hRl : R.length ≤ 9223372036854775807 := hR.1
  clear hw2 HB1 a0 a1 a2 hR
  by_cases h0 : x = 0
  case neg =>
    have hb : (x != 0) = true := by simpa using h0
    clear HF h0 HR HS
    go_wp2_with fail
    go_ret
    exact ⟨rfl, HB2.out⟩
  have hb : (x != 0) = false := by simpa using h0
  obtain ⟨hn5, hall⟩ := HF.out h0
  have HALL := Hid.intro hall
  clear HF h0 hall
  go_wp2_with fail
  go_loopw [23] (fun i wr => ∃ k : Nat, k ≤ R.length ∧ i = .int .i64 k ∧ Below w2.heap.size w2 wr) (fun i _ => R.length - (intOf i).toNat)
  case atStart => exact ⟨0, Nat.zero_le _, rfl, Below.refl _ _⟩
  case round =>
    obtain ⟨k, hk, rfl, hw⟩ := hrel
    by_cases hlt : k < R.length
    · obtain ⟨b, o, A, C, A2, C2, rfl, c0, c1, c2, c3, l1, l2, t1, t2⟩ := (HR.out.kept hw).2 k hlt
      have hRR : ReqR n V (reqN R k) := HALL.out _ (by rw [reqN_get hlt]; exact List.getElem_mem hlt)
      have hlt' : (k : Int) < (R.length : Int) := by omega
      have hk0 : (0 : Int) ≤ (k : Int) := by omega
      have hkn : ((reqN R k).keys.length : Int) ≠ 0 := by
        have := hRR.some
        intro e
        exact this (List.eq_nil_of_length_eq_zero (by omega))
      have hkb : (((reqN R k).keys.length : Int) == 0) = false := by rw [beq_eq_false_iff_ne]; exact hkn
      have hwr : Below w.heap.size w wr := HB2.out.trans (hw.mono HB2.out.size)
      generalize hX : wr.alloc (Obj.cells #[.int .i64 (reqN R k).svc, .string (reqN R k).type, .slice A (reqN R k).keys.length C, .slice A2 (reqN R k).fields.length C2] 34) = X
      have hBX : Below wr.heap.size wr X := by rw [← hX]; exact below1 _ _
      have hbx : X.heap[wr.heap.size]? = some (.cells #[.int .i64 (reqN R k).svc, .string (reqN R k).type, .slice A (reqN R k).keys.length C, .slice A2 (reqN R k).fields.length C2] 34 (0, 0)) := by rw [← hX]; exact heap_alloc_new _ _
      have hSX : ServsAt X a n V := HS.out.kept (hwr.trans (hBX.mono hwr.size))
      have hcl := swrong_any a n cap (fun i => svOf (V i)) (lreq (reqN R k) A C A2 C2) X hSX.sv (hRR.ok hSX hn5 (t1.kept hBX) (t2.kept hBX) l1 l2)
      rw [right_req hRR] at hcl
      unfold reqV lreq at hcl
      obtain ⟨x0, x1, x2, x3⟩ : X.cell? ⟨wr.heap.size, 0, none⟩ = some (.int .i64 (reqN R k).svc) ∧ X.cell? ⟨wr.heap.size, 1, none⟩ = some (.string (reqN R k).type) ∧ X.cell? ⟨wr.heap.size, 2, none⟩ = some (.slice A (reqN R k).keys.length C) ∧ X.cell? ⟨wr.heap.size, 3, none⟩ = some (.slice A2 (reqN R k).fields.length C2) := by simp [World.cell?, hbx]
      have HWX : Hid (Below w2.heap.size w2 X) := Hid.intro (hw.trans (hBX.mono hw.size))
      clear hRR t1 t2 l1 l2 hwr hBX hSX hw hbx hkn
      generalize reqN R k = r at *
      dsimp only at hcl
      go_wp2_with fail
      clear hX
      refine hcl.mono ?_
      clear hcl
      rintro e w3 ⟨rfl, hw3⟩
      have x2 := keptCell hw3 x2
      have HW3 := Hid.intro (HWX.out.trans (hw3.mono HWX.out.size))
      clear hw3 HWX x0 x1 x3 c0 c1 c2 c3
      go_wp2_with fail
      go_roundw
      case rel => exact ⟨k + 1, by omega, by go_num, HW3.out⟩
      case measure => simp [intOf]; omega
    · go_wp2_with fail
      go_ret
      exact ⟨rfl, HB2.out.trans (hw.mono HB2.out.size)⟩
end Go.Proofs.Ytjjggefmmeminac
