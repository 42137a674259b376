import Derived.Test.YtjjggefmmeminabGreatRgMean
import Derived.Test.YtjjggefmmeminabGreatMnMean
import Derived.Test.YtjjggefmmeminabGreatRgSame
/-
  The walk of stitchlaw6.MeanTells: it answers true, and keeps what is there.
-/
namespace Go.Proofs.YtjjggefmmeminabGreat
open Go.RowKit Go.Sort Go.PlainAid

set_option maxRecDepth 100000 in
set_option maxHeartbeats 4000000 in
theorem meanTells_any (a : Option Addr) (n cap : Nat) (V : Nat → LServ) (d : Nat) (type key : ByteArray) (pa : Option Addr) (pcap : Nat) (ps : List (Pick d)) (w : World) (hS : ServsAt w a n V) (hP : PicksAt w d pa ps) (hcap : ps.length ≤ pcap) (hs0 : Small type) (hs1 : Small key) :
    Calls Tryz.prog 3 #[.slice a n cap, .agg #[.string type, .string key, .slice pa ps.length pcap]] w fun e w' => e = .returned (.bool true) ∧ Below w.heap.size w w' := by
  have HS := Hid.intro hS
  have HP := Hid.intro hP
  generalize hW : w.alloc (Obj.cells #[.string type, .string key, .slice pa ps.length pcap] 25) = W
  have hBW : Below w.heap.size w W := by rw [← hW]; exact below1 _ _
  have a0 : W.cell? ⟨w.heap.size, 0, none⟩ = some (.string type) := by rw [← hW, World.cell?_alloc_at _ _ _ _ rfl]; rfl
  have a1 : W.cell? ⟨w.heap.size, 1, none⟩ = some (.string key) := by rw [← hW, World.cell?_alloc_at _ _ _ _ rfl]; rfl
  have a2 : W.cell? ⟨w.heap.size, 2, none⟩ = some (.slice pa ps.length pcap) := by rw [← hW, World.cell?_alloc_at _ _ _ _ rfl]; rfl
  have hcl := mean_any a n cap V d type key pa pcap ps W (hS.kept hBW) (hP.kept hBW) hcap hs0 hs1
  have HBW := Hid.intro hBW
  have HC2 : Hid (∀ w3, Below w.heap.size w w3 → Calls Tryz.prog 7 #[.slice a n cap, .agg #[.string type, .string key, .slice pa ps.length pcap]] w3 fun e w' => MeanEnd w3.heap.size d (meanG n V d type key ps) (meanE n V d type key ps) e w' ∧ Below w3.heap.size w3 w') := Hid.intro fun w3 h3 => rmean_any a n cap V d type key pa pcap ps w3 (hS.kept h3) (hP.kept h3) hcap hs0 hs1
  clear hS hP hBW HS HP
  generalize meanG n V d type key ps = M at *
  generalize meanE n V d type key ps = x at *
  go_enter Tryz.func3, Tryz.ntmps3
  go_wp2_with fail
  clear hW
  refine hcl.mono ?_
  clear hcl
  rintro e w3 ⟨⟨va3, vc3, rfl, hc3, ho3⟩, hw3⟩
  have a0 := keptCell hw3 a0
  have a1 := keptCell hw3 a1
  have a2 := keptCell hw3 a2
  have hB3 : Below w.heap.size w w3 := HBW.out.trans (hw3.mono HBW.out.size)
  have hcl := HC2.out w3 hB3
  have HO3 := Hid.intro ho3.free.at
  have HB3 := Hid.intro hB3
  clear hw3 HC2 ho3 hB3 HBW
  go_wp2_with fail
  refine hcl.mono ?_
  clear hcl
  rintro e w4 ⟨⟨va4, vc4, rfl, hc4, ho4⟩, hw4⟩
  have hcl := sameGot_any d va3 va4 vc3 vc4 M w4 (HO3.out.kept hw4) ho4.free.at
  have HB4 := Hid.intro (HB3.out.trans (hw4.mono HB3.out.size))
  clear hw4 ho4 HO3 HB3
  go_wp2_with fail
  refine hcl.mono ?_
  clear hcl
  rintro e w5 ⟨rfl, hw5⟩
  have HB5 := Hid.intro (HB4.out.trans (hw5.mono HB4.out.size))
  clear hw5 HB4
  go_wp2_with fail
  go_ret
  exact ⟨rfl, HB5.out⟩
end Go.Proofs.YtjjggefmmeminabGreat
