import Derived.Test.YtjjggefmmeminacGtAlive
import Derived.Test.YtjjggefmmeminacJGq
/-
  The walk of stitchlaw7.GateFew, of a gate.Run that keeps its promise: it answers true.
-/
namespace Go.Proofs.Ytjjggefmmeminac
open Go.RowKit Go.Sort Go.PlainAid

theorem few_plain {n : Nat} {V : Nat → LServ} {d : Nat} {type key : ByteArray} {ps : List (Pick d)} (h : meanE n V d type key ps = 0) : (reqs n V d type key ps).length ≤ lists d ps * n ∧ 1 ≤ (reqs n V d type key ps).length ∧ lists d ps ≤ 61 ∧ n ≤ 5 ∧ total d ps ≤ 60 := by
  have hr : reqs n V d type key ps = asks V (allP (ntS V) (seenA V) n) d (pOf (allP (ntS V) (seenA V) n) type) [key] ps := by unfold reqs; rw [if_pos h]
  obtain ⟨h0, hc, -⟩ := meanE_zero.1 h
  obtain ⟨hw, hpi, hcR⟩ := cA_wA hc
  have ht := wA_total hw
  have hl := lists_total d ps
  refine ⟨?_, ?_, by omega, (wrongF_ok (allF_wrong h0)).1, ht⟩
  · rw [hr]; exact asks_few h0 d type [key] ps [] hpi hcR
  · rw [hr]
    cases d with
    | zero =>
      have := (wA_sm hw).2
      rw [nil0 ps] at this
      simp at this
    | succ d => exact asks_some hpi

set_option maxRecDepth 100000 in
set_option maxHeartbeats 4000000 in
theorem gateFew_any (hRun : RunOk 8) (a : Option Addr) (n cap : Nat) (V : Nat → LServ) (d : Nat) (type key : ByteArray) (pa : Option Addr) (pcap : Nat) (ps : List (Pick d)) (w : World) (hS : ServsAt w a n V) (hP : PicksAt w d pa ps) (hcap : ps.length ≤ pcap) (hs0 : Small type) (hs1 : Small key) :
    Calls Try.prog 4 #[.slice a n cap, .agg #[.string type, .string key, .slice pa ps.length pcap]] w fun e w' => e = .returned (.bool true) ∧ Below w.heap.size w w' := by
  have HS := Hid.intro hS
  have HP := Hid.intro hP
  generalize hW : w.alloc (Obj.cells #[.string type, .string key, .slice pa ps.length pcap] 25) = W
  have hBW : Below w.heap.size w W := by rw [← hW]; exact below1 _ _
  have a0 : W.cell? ⟨w.heap.size, 0, none⟩ = some (.string type) := by rw [← hW, World.cell?_alloc_at _ _ _ _ rfl]; rfl
  have a1 : W.cell? ⟨w.heap.size, 1, none⟩ = some (.string key) := by rw [← hW, World.cell?_alloc_at _ _ _ _ rfl]; rfl
  have a2 : W.cell? ⟨w.heap.size, 2, none⟩ = some (.slice pa ps.length pcap) := by rw [← hW, World.cell?_alloc_at _ _ _ _ rfl]; rfl
  have hcl := alive7_any hRun W
  have HBW := Hid.intro hBW
  have HRun := Hid.intro hRun
  clear hS hP hBW hRun
  go_enter Try.func4, Try.ntmps4
  go_wp2_with fail
  clear hW
  refine hcl.mono ?_
  clear hcl
  rintro e w1 ⟨rfl, hw1⟩
  have HB1 := Hid.intro (HBW.out.trans (hw1.mono HBW.out.size))
  have a0 := keptCell hw1 a0
  have a1 := keptCell hw1 a1
  have a2 := keptCell hw1 a2
  have hcl := HRun.out a n cap V d type key pa pcap ps w1 (HS.out.kept HB1.out) (HP.out.kept HB1.out) hcap hs0 hs1
  clear hw1 HBW HS HRun
  have HF : Hid (meanE n V d type key ps = 0 → (reqs n V d type key ps).length ≤ lists d ps * n ∧ 1 ≤ (reqs n V d type key ps).length ∧ lists d ps ≤ 61 ∧ n ≤ 5 ∧ total d ps ≤ 60) := Hid.intro few_plain
  generalize meanG n V d type key ps = M at *
  generalize meanE n V d type key ps = x at *
  generalize reqs n V d type key ps = R at *
  go_wp2_with fail
  refine hcl.mono ?_
  clear hcl
  rintro e w2 ⟨⟨va, vc, qa, qc, rfl, -, -, -, -⟩, hw2⟩
  have HB2 := Hid.intro (HB1.out.trans (hw2.mono HB1.out.size))
  have a2 := keptCell hw2 a2
  clear hw2 HB1 a0 a1
  by_cases h0 : x = 0
  · obtain ⟨h1, h2, h3, h4, h5⟩ := HF.out h0
    have hb : (x != 0) = false := by simpa using h0
    have hcl := rlists_any d pa pcap ps w2 (HP.out.kept HB2.out) (by omega)
    generalize lists d ps = m at *
    have hmn : m * n ≤ 305 := Nat.le_trans (Nat.mul_le_mul h3 h4) (by decide)
    have hmul : (m : Int) * (n : Int) = ((m * n : Nat) : Int) := (Int.natCast_mul m n).symm
    have hle : (R.length : Int) ≤ ((m * n : Nat) : Int) := by omega
    have hge : (R.length : Int) ≥ 1 := by omega
    generalize m * n = k at *
    have hwr : IntKind.i64.wrap ((m : Int) * (n : Int)) = (k : Int) := by
      rw [hmul]
      simp only [IntKind.wrap, IntKind.bits, IntKind.signed]
      simp
      omega
    clear HF h0 h1 h2 HP
    go_wp2_with fail
    refine hcl.mono ?_
    clear hcl
    rintro e w3 ⟨rfl, hw3⟩
    have HB3 := Hid.intro (HB2.out.trans (hw3.mono HB2.out.size))
    clear hw3 HB2 a2
    go_wp2_with fail
    go_ret
    exact ⟨rfl, HB3.out⟩
  · have hb : (x != 0) = true := by simpa using h0
    clear HF h0 HP
    go_wp2_with fail
    go_ret
    exact ⟨rfl, HB2.out⟩
end Go.Proofs.Ytjjggefmmeminac
