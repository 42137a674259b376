/-
  The walk of stitchlaw4.QueryLess.
-/
import Derived.Test.YtjjggefmmeminabQaAlive
namespace Go.Proofs.Ytjjggefmmeminab
open Go.RowKit Go.Sort Go.PlainAid

set_option maxRecDepth 100000 in
set_option maxHeartbeats 2000000 in
theorem queryLess_any (pa : Option Addr) (pn pcap : Nat) (P : Nat → LPart) (d : Nat) (type key : ByteArray) (a : Option Addr) (cap : Nat) (L : List (Pick d)) (n : Int) (w : World) (hPA : PartsAt w pa pn P) (hP : PicksAt w d a L) (hcap : L.length ≤ cap) (hs0 : Small type) (hs1 : Small key) :
    Calls Try.prog 4 #[.slice pa pn pcap, .agg #[.string type, .string key, .slice a L.length cap], .int .i64 n] w fun e w' => e = .returned (.bool true) ∧ Below w.heap.size w w' := by
  have hn : L.length ≤ 9223372036854775807 := hP.max
  generalize hW : w.alloc (Obj.cells #[.string type, .string key, .slice a L.length cap] 24) = W
  have hBW : Below w.heap.size w W := by rw [← hW]; exact below1 _ _
  have c0 : W.cell? ⟨w.heap.size, 0, none⟩ = some (.string type) := by rw [← hW, World.cell?_alloc_at _ _ _ _ rfl]; rfl
  have c1 : W.cell? ⟨w.heap.size, 1, none⟩ = some (.string key) := by rw [← hW, World.cell?_alloc_at _ _ _ _ rfl]; rfl
  have c2 : W.cell? ⟨w.heap.size, 2, none⟩ = some (.slice a L.length cap) := by rw [← hW, World.cell?_alloc_at _ _ _ _ rfl]; rfl
  have hcl := alive4_any W
  have HP := hidI hP
  have HPA := hidI hPA
  have HBW := hidI hBW
  clear hP hPA hBW
  go_enter Try.func4, Try.ntmps4
  go_wp2_with fail
  clear hW
  refine hcl.mono ?_
  clear hcl
  rintro e w1 ⟨rfl, hw1⟩
  have c0 := keptCell hw1 c0
  have c1 := keptCell hw1 c1
  have c2 := keptCell hw1 c2
  have HB1 : Hid (Below w.heap.size w w1) := HBW.out.trans (hw1.mono HBW.out.size)
  clear hw1 HBW
  have hcl := qcheck_any pa pn pcap P d type key a cap L w1 (HPA.out.kept HB1.out) (HP.out.kept HB1.out) hcap hs0 hs1
  have HTK : Hid (∀ k, 0 < k → 0 < L.length → cA pn P d type key L = 0 → cA pn P d type key (L.take k) = 0) := fun k h1 h2 h3 => cA_take h1 h2 h3
  generalize cA pn P d type key L = r at *
  go_wp2_with fail
  refine hcl.mono ?_
  clear hcl
  rintro e w2 ⟨rfl, hw2⟩
  have c0 := keptCell hw2 c0
  have c1 := keptCell hw2 c1
  have c2 := keptCell hw2 c2
  have HB2 : Hid (Below w.heap.size w w2) := HB1.out.trans (hw2.mono HB1.out.size)
  clear hw2 HB1
  by_cases hr : r = 0
  case neg =>
    have hr' : (r != 0) = true := by simpa using hr
    clear hr
    go_wp2_with fail
    go_ret
    exact ⟨rfl, HB2.out⟩
  have hr' : (r != 0) = false := by simpa using hr
  by_cases h1 : n < 1
  · clear hr
    go_wp2_with fail
    go_ret
    exact ⟨rfl, HB2.out⟩
  by_cases h2 : (L.length : Int) < n
  · clear hr
    go_wp2_with fail
    go_ret
    exact ⟨rfl, HB2.out⟩
  obtain ⟨k, rfl⟩ : ∃ k : Nat, n = (k : Int) := ⟨n.toNat, by omega⟩
  have HZ := hidI (HTK.out k (by omega) (by omega) hr)
  have hkl : (L.take k).length = k := by rw [List.length_take]; omega
  generalize hV : w2.alloc (Obj.cells #[.string type, .string key, .slice a k cap] 24) = V
  have hBV : Below w2.heap.size w2 V := by rw [← hV]; exact below1 _ _
  have hBV2 := HB2.out.trans (hBV.mono HB2.out.size)
  have hcl := qcheck_any pa pn pcap P d type key a cap (L.take k) V (HPA.out.kept hBV2) ((HP.out.kept hBV2).less k) (by omega) hs0 hs1
  rw [hkl, HZ.out] at hcl
  have HBV := hidI hBV2
  have hk0 : (0 : Int) ≤ (k : Int) := by omega
  have hkc : (k : Int) ≤ (cap : Int) := by omega
  have hlt2 : w.heap.size < w2.heap.size := block_lt_of_cell c2
  have v0 : V.cell? ⟨w2.heap.size, 0, none⟩ = some (.string type) := by rw [← hV, World.cell?_alloc_at _ _ _ _ rfl]; rfl
  have v1 : V.cell? ⟨w2.heap.size, 1, none⟩ = some (.string key) := by rw [← hV, World.cell?_alloc_at _ _ _ _ rfl]; rfl
  have v2 : V.cell? ⟨w2.heap.size, 2, none⟩ = some (.slice a k cap) := by rw [← hV, World.cell?_alloc_at _ _ _ _ rfl]; rfl
  clear hr hBV hBV2 HTK
  go_wp2_with fail
  clear hV v0 v1 v2
  refine hcl.mono ?_
  clear hcl
  rintro e w3 ⟨rfl, hw3⟩
  have HB3 : Hid (Below w.heap.size w w3) := HBV.out.trans (hw3.mono HBV.out.size)
  clear hw3
  go_wp2_with fail
  go_ret
  exact ⟨rfl, HB3.out⟩
end Go.Proofs.Ytjjggefmmeminab
