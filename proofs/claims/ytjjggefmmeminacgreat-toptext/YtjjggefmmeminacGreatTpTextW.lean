import Derived.Test.YtjjggefmmeminacGreatJTr
import Derived.Test.YtjjggefmmeminacGreatMnMean
import Derived.Test.YtjjggefmmeminacGreatRgSame
/-
  The walk of stitchtop.TopText: it answers true.
-/
namespace Go.Proofs.YtjjggefmmeminacGreat
open Go.RowKit Go.Sort Go.PlainAid

set_option maxRecDepth 100000 in
set_option maxHeartbeats 4000000 in
theorem topText_any (a : Option Addr) (n cap : Nat) (V : Nat → LServ) (s : ByteArray) (w : World) (hS : ServsAt w a n V) (hs : Small s) :
    Calls Tryz.prog 4 #[.slice a n cap, .string s] w fun e w' => e = .returned (.bool true) ∧ Below w.heap.size w w' := by
  have hcl := talive_any w
  have HS := Hid.intro hS
  clear hS
  go_enter Tryz.func4, Tryz.ntmps4
  go_wp2_with fail
  refine hcl.mono ?_
  clear hcl
  rintro e w0 ⟨rfl, hw0⟩
  have HW0 := Hid.intro hw0
  have hcl := parse_any s w0 hs
  clear hw0
  go_wp2_with fail
  refine hcl.mono ?_
  clear hcl
  rintro e w1 ⟨hok, herr, hw1⟩
  have HW1 := Hid.intro (HW0.out.trans (hw1.mono HW0.out.size))
  clear hw1 HW0
  cases hp : parse s with
  | error x =>
    have he := herr x hp
    subst he
    have hx := parse_err hp
    have hxb : (x.1 != 0) = true := by simpa using hx
    have HP : Hid (parse s = .error x) := Hid.intro hp
    clear hok herr hp hx
    obtain ⟨x1, x2⟩ := x
    dsimp only at hxb
    go_upto_region 4 with fail
    generalize hX : (w1.alloc (Obj.cells #[.string ⟨#[]⟩, .string ⟨#[]⟩, .slice none 0 0] 25)).alloc (Obj.cells #[.int .i64 x1, .int .i64 (x2 : Int)] 45) = X
    have f0 : X.cell? ⟨w1.heap.size + 1, 0, none⟩ = some (.int .i64 x1) := by rw [← hX, World.cell?_alloc_at _ _ _ _ (by simp)]; rfl
    have HX : Hid (Below w.heap.size w X) := Hid.intro (by rw [← hX]; exact HW1.out.trans ((below2 w1 _ _).mono HW1.out.size))
    have hcl := trun_any a n cap V s X (HS.out.kept HX.out) hs
    clear hX
    go_wp2_with fail
    refine hcl.mono ?_
    clear hcl
    rintro e w2 ⟨⟨-, h2⟩, hw2⟩
    have he := h2 _ HP.out
    dsimp only at he
    subst he
    have f0 := keptCell hw2 f0
    have HB2 := Hid.intro (HX.out.trans (hw2.mono HX.out.size))
    clear h2 hw2 HX
    go_wp2_with fail
    go_ret
    exact ⟨rfl, HB2.out⟩
  | ok r =>
    obtain ⟨pa, pc, he, hpc, hPk⟩ := hok r hp
    subst he
    obtain ⟨hs1, hs2⟩ := parse_ok hp
    have HP : Hid (parse s = .ok r) := Hid.intro hp
    have HPk := Hid.intro hPk
    clear hok herr hp hPk
    obtain ⟨r1, r2, r3⟩ := r
    dsimp only at hs1 hs2 HPk hpc
    go_upto_region 4 with fail
    generalize hX : (w1.alloc (Obj.cells #[.string r1, .string r2, .slice pa r3.length pc] 25)).alloc (Obj.cells #[.int .i64 0, .int .i64 0] 45) = X
    have hBX : Below w1.heap.size w1 X := by rw [← hX]; exact below2 w1 _ _
    have f0 : X.cell? ⟨w1.heap.size + 1, 0, none⟩ = some (.int .i64 0) := by rw [← hX, World.cell?_alloc_at _ _ _ _ (by simp)]; rfl
    obtain ⟨g0, g1, g2⟩ : X.cell? ⟨w1.heap.size, 0, none⟩ = some (.string r1) ∧ X.cell? ⟨w1.heap.size, 1, none⟩ = some (.string r2) ∧ X.cell? ⟨w1.heap.size, 2, none⟩ = some (.slice pa r3.length pc) := by
      rw [← hX]
      refine ⟨?_, ?_, ?_⟩
      all_goals (rw [World.cell?_of_block (Below.heap_alloc _ _ _ (by simp)), World.cell?_alloc_at _ _ _ _ rfl]; rfl)
    have HX : Hid (Below w.heap.size w X) := Hid.intro (HW1.out.trans (hBX.mono HW1.out.size))
    have HPX := Hid.intro (HPk.out.kept hBX)
    have hcl := trun_any a n cap V s X (HS.out.kept HX.out) hs
    clear hX hBX HPk HW1
    go_wp2_with fail
    refine hcl.mono ?_
    clear hcl
    rintro e w2 ⟨⟨h1, -⟩, hw2⟩
    obtain ⟨va, vc, qa, qc, rfl, -, -, hG, -⟩ := h1 _ HP.out
    have f0 := keptCell hw2 f0
    have g0 := keptCell hw2 g0
    have g1 := keptCell hw2 g1
    have g2 := keptCell hw2 g2
    have HB2 := Hid.intro (HX.out.trans (hw2.mono HX.out.size))
    have HG := Hid.intro hG
    have hcl := mean_any a n cap V 8 r1 r2 pa pc r3 w2 (HS.out.kept HB2.out) (HPX.out.kept hw2) hpc hs1 hs2
    clear h1 hw2 HX hG HPX HS
    dsimp only at HG ⊢
    generalize meanG n V 8 r1 r2 r3 = M at *
    generalize meanE n V 8 r1 r2 r3 = x at *
    generalize (reqs n V 8 r1 r2 r3).length = R at *
    go_wp2_with fail
    refine hcl.mono ?_
    clear hcl
    rintro e w4 ⟨⟨va4, vc4, rfl, hc4, ho4⟩, hw4⟩
    have hcl := sameGot_any 8 va va4 vc vc4 M w4 (HG.out.kept hw4) ho4.free.at
    have HB4 := Hid.intro (HB2.out.trans (hw4.mono HB2.out.size))
    clear hw4 ho4 HG HB2 g0 g1 g2 f0
    go_wp2_with fail
    refine hcl.mono ?_
    clear hcl
    rintro e w5 ⟨rfl, hw5⟩
    have HB5 := Hid.intro (HB4.out.trans (hw5.mono HB4.out.size))
    clear hw5 HB4
    go_wp2_with fail
    go_ret
    exact ⟨rfl, HB5.out⟩
end Go.Proofs.YtjjggefmmeminacGreat
