/-
  The walk of stitchlaw4.QueryTells.
-/
import Derived.Test.YtjjggefmmeminaaRpParse
import Derived.Test.YtjjggefmmeminaaRtPrint
import Derived.Test.YtjjggefmmeminaaQaSame
import Derived.Test.YtjjggefmmeminaaQyCheck
import Derived.Test.YtjjggefmmeminaaRyCheck
namespace Go.Proofs.Ytjjggefmmeminaa
open Go.RowKit Go.Sort Go.PlainAid

def pT (s : ByteArray) : ByteArray := match parse s with | .ok r => r.1 | .error _ => ⟨#[]⟩
def pK (s : ByteArray) : ByteArray := match parse s with | .ok r => r.2.1 | .error _ => ⟨#[]⟩
def pL (s : ByteArray) : List (Pick 8) := match parse s with | .ok r => r.2.2 | .error _ => []
def pE (s : ByteArray) : Int × Int := match parse s with | .ok _ => (0, 0) | .error x => (x.1, (x.2 : Int))
theorem ParseOut.shape {s : ByteArray} {w : World} {e : Ending} {w' : World} (h : ParseOut s w e w') : (∃ a c, e = .returned (.tuple #[.agg #[.string (pT s), .string (pK s), .slice a (pL s).length c], .agg #[.int .i64 (pE s).1, .int .i64 (pE s).2]]) ∧ PicksAt w' 8 a (pL s)) ∧ Below w.heap.size w w' := by
  obtain ⟨h1, h2, h3⟩ := h
  refine ⟨?_, h3⟩
  unfold pT pK pL pE
  cases hp : parse s with
  | ok r => obtain ⟨a, c, e1, -, e2⟩ := h1 r hp; exact ⟨a, c, e1, e2⟩
  | error x => exact ⟨none, 0, h2 x hp, PicksAt.none⟩
theorem ask_fault (w : World) (t k : ByteArray) (a : Option Addr) (n c : Nat) (x y : Int) (W : World) (hW : W = (w.alloc (Obj.cells #[.string t, .string k, .slice a n c] 87)).alloc (Obj.cells #[.int .i64 x, .int .i64 y] 30)) :
    Below w.heap.size w W ∧ ABox W w.heap.size t k a n c ∧ W.heap[w.heap.size + 1]? = some (.cells #[.int .i64 x, .int .i64 y] 30 (0, 0)) := by
  have hsz : (w.alloc (Obj.cells #[.string t, .string k, .slice a n c] 87)).heap.size = w.heap.size + 1 := by simp
  refine ⟨by rw [hW]; exact below2 _ _ _, ?_, ?_⟩
  · rw [hW]; exact (Below.heap_alloc _ _ _ (by simp)).trans (heap_alloc_new _ _)
  · rw [hW, ← hsz]; exact heap_alloc_new _ _

set_option maxRecDepth 100000 in
set_option maxHeartbeats 4000000 in
theorem queryTells_any (s : ByteArray) (d : Nat) (type key : ByteArray) (a : Option Addr) (cap : Nat) (L : List (Pick d)) (w : World) (hP : PicksAt w d a L) (hcap : L.length ≤ cap) (hs : Small s) (hs0 : Small type) (hs1 : Small key) :
    Calls Try.prog 13 #[.string s, .agg #[.string type, .string key, .slice a L.length cap]] w fun e w' => e = .returned (.bool true) ∧ Below w.heap.size w w' := by
  generalize hW : w.alloc (Obj.cells #[.string type, .string key, .slice a L.length cap] 87) = W
  have hBW : Below w.heap.size w W := by rw [← hW]; exact below1 _ _
  have hab : ABox W w.heap.size type key a L.length cap := by rw [← hW]; exact heap_alloc_new _ _
  have hcl := parse_any s W hs
  have HP := hidI hP
  have HBW := hidI hBW
  have HAB := hidI hab
  have HS := hidI hs
  have hnl : L.length ≤ 9223372036854775807 := hP.max
  clear hP hBW hab
  go_enter Try.func13, Try.ntmps13
  go_wp2_with fail
  clear hW
  refine hcl.mono ?_
  clear hcl
  intro e w1 ho1
  obtain ⟨⟨ax, cx, rfl, hx⟩, hw1⟩ := ho1.shape
  obtain ⟨V, hV⟩ : ∃ V, V = (w1.alloc (Obj.cells #[.string (pT s), .string (pK s), .slice ax (pL s).length cx] 87)).alloc (Obj.cells #[.int .i64 (pE s).1, .int .i64 (pE s).2] 30) := ⟨_, rfl⟩
  obtain ⟨hBV, hxb, hxf⟩ := ask_fault w1 _ _ _ _ _ _ _ V hV
  have HX := hidI (hx.kept hBV)
  have HXB := hidI hxb
  have HXF := hidI hxf
  have HB1 : Hid (Below W.heap.size W V) := hw1.trans (hBV.mono hw1.size)
  clear ho1 hx hw1 hBV hxb hxf
  go_wp2_with fail
  rw [← hV]
  clear hV
  refine (rparse_any s V HS.out).mono ?_
  intro e w2 ho2
  obtain ⟨⟨ay, cy, rfl, hy⟩, hw2⟩ := ho2.shape
  obtain ⟨U, hU⟩ : ∃ U, U = (w2.alloc (Obj.cells #[.string (pT s), .string (pK s), .slice ay (pL s).length cy] 87)).alloc (Obj.cells #[.int .i64 (pE s).1, .int .i64 (pE s).2] 30) := ⟨_, rfl⟩
  obtain ⟨hBU, hyb, hyf⟩ := ask_fault w2 _ _ _ _ _ _ _ U hU
  have hVU : Below V.heap.size V U := hw2.trans (hBU.mono hw2.size)
  have hWU : Below W.heap.size W U := HB1.out.trans (hVU.mono HB1.out.size)
  have hwU : Below w.heap.size w U := HBW.out.trans (hWU.mono HBW.out.size)
  have hxb := HXB.out.kept hVU
  have hxf : U.heap[w1.heap.size + 1]? = some (.cells #[.int .i64 (pE s).1, .int .i64 (pE s).2] 30 (0, 0)) := (hVU.block _ (lt_of_block HXF.out)).trans HXF.out
  have hau := HAB.out.kept hWU
  obtain ⟨f0, f1, -, -⟩ := box_cells hxf
  obtain ⟨g0, g1, -, -⟩ := box_cells hyf
  have HBU := hidI hwU
  have HAU := hidI hau
  have f0 := cell_regrown f0
  have f1 := cell_regrown f1
  have g0 := cell_regrown g0
  have g1 := cell_regrown g1
  have x0 := cell_regrown hxb.c0
  have x1 := cell_regrown hxb.c1
  have x2 := cell_regrown hxb.c2
  have y0 := cell_regrown hyb.c0
  have y1 := cell_regrown hyb.c1
  have y2 := cell_regrown hyb.c2
  have a0 := cell_regrown hau.c0
  have a1 := cell_regrown hau.c1
  have a2 := cell_regrown hau.c2
  have cS : ∀ d' os, Calls Try.prog 44 #[.agg #[.string (pT s), .string (pK s), .slice ax (pL s).length cx], .agg #[.string (pT s), .string (pK s), .slice ay (pL s).length cy]] (grow (redrawn U d') os) fun e w'' => e = .returned (.bool true) ∧ ∃ r : Regrown, w'' = grow (redrawn U r.d) r.os := fun d' os => Calls.regrown_of (same_any 8 8 _ _ ax ay cx cy (pL s) (pL s) _ ((HX.out.kept hVU).kept (below_regrown U d' os)) ((hy.kept hBU).kept (below_regrown U d' os)) (alike_refl 8 _))
  have cQ : ∀ d' os, Calls Try.prog 45 #[.agg #[.string type, .string key, .slice a L.length cap]] (grow (redrawn U d') os) fun e w'' => e = .returned (.int .i64 (wA d type key L)) ∧ ∃ r : Regrown, w'' = grow (redrawn U r.d) r.os := fun d' os => Calls.regrown_of (qwrong_any d type key a cap L _ ((HP.out.kept hwU).kept (below_regrown U d' os)) hs0 hs1)
  have cR : ∀ d' os, Calls Try.prog 46 #[.agg #[.string type, .string key, .slice a L.length cap]] (grow (redrawn U d') os) fun e w'' => e = .returned (.int .i64 (wA d type key L)) ∧ ∃ r : Regrown, w'' = grow (redrawn U r.d) r.os := fun d' os => Calls.regrown_of (rwrong_any d type key a cap L _ ((HP.out.kept hwU).kept (below_regrown U d' os)) hs0 hs1)
  clear ho2 hy hw2 hBU hyb hyf hVU hWU hwU hxb hxf hau HX HXB HXF HB1 HAB HBW
  go_wp2_with fail
  rw [← hU]
  clear hU
  generalize pT s = px at *
  generalize pK s = pk at *
  generalize (pL s).length = pn at *
  generalize (pE s).1 = pe at *
  generalize (pE s).2 = pf at *
  generalize wA d type key L = wa at *
  refine wp_region_quiet_below (by kernel_rfl) (by kernel_rfl) ?_
  repeat (go_big_quiet_step (first | exact cS _ _ | exact cQ _ _ | exact cR _ _))
  refine wpQuiet_nil ?_
  intro _ hw'
  obtain ⟨⟨dq, osq⟩, hw''⟩ := hw'
  subst hw''
  have hB3 := below_regrown U dq osq
  generalize grow (redrawn U dq) osq = w3 at *
  have HB3 : Hid (Below w.heap.size w w3) := HBU.out.trans (hB3.mono HBU.out.size)
  have ha3 := HAU.out.kept hB3
  have c0 := ha3.c0
  have c1 := ha3.c1
  have c2 := ha3.c2
  have HA3 := hidI ha3
  clear hB3 HBU HAU f0 f1 g0 g1 x0 x1 x2 y0 y1 y2 a0 a1 a2 cS cQ cR ha3
  have hcl := print_any d type key a cap L w3 (HP.out.kept HB3.out) hcap hs0 hs1
  generalize hpr : printA d type key L = pr at *
  go_wp2_with fail
  refine hcl.mono ?_
  clear hcl c0 c1 c2
  rintro e w4 ⟨rfl, hw4⟩
  have HB4 : Hid (Below w.heap.size w w4) := HB3.out.trans (hw4.mono HB3.out.size)
  have ha4 := HA3.out.kept hw4
  have c0 := ha4.c0
  have c1 := ha4.c1
  have c2 := ha4.c2
  have HA4 := hidI ha4
  have hcl := rprint_any d type key a cap L w4 (HP.out.kept HB4.out) hcap hs0 hs1
  rw [hpr] at hcl
  clear hw4 ha4 HA3 HB3 hpr
  go_wp2_with fail
  refine hcl.mono ?_
  clear hcl c0 c1 c2
  rintro e w5 ⟨rfl, hw5⟩
  have HB5 : Hid (Below w.heap.size w w5) := HB4.out.trans (hw5.mono HB4.out.size)
  have c2 := (HA4.out.kept hw5).c2
  clear hw5 HA4 HB4
  go_wp2_with fail
  clear c2
  go_loopw [54] (fun i wr => ∃ k : Nat, k ≤ L.length ∧ i = .int .i64 k ∧ Below w.heap.size w wr) (fun i _ => L.length - (intOf i).toNat)
  case atStart => exact ⟨0, Nat.zero_le _, rfl, HB5.out⟩
  case round =>
    obtain ⟨k, hk, rfl, hBr⟩ := hrel
    by_cases hlt : k < L.length
    · cases d with
      | zero => exact absurd hlt (by rw [nil0 L]; exact Nat.not_lt_zero _)
      | succ d =>
      obtain ⟨b, o, A, C, ha, c0, c1, c2, hC, s0, s1, -⟩ := (HP.out.kept hBr).2 k hlt
      subst ha
      have hlt' : (k : Int) < (L.length : Int) := by omega
      have hk0 : (0 : Int) ≤ (k : Int) := by omega
      generalize hV : wr.alloc (Obj.cells #[.string (nick (pickN L k)), .string (pfield (pickN L k)), .slice A (subs (pickN L k)).length C] 95) = V
      have hBV : Below wr.heap.size wr V := by rw [← hV]; exact below1 _ _
      have v0 : V.cell? ⟨wr.heap.size, 0, none⟩ = some (.string (nick (pickN L k))) := by rw [← hV, World.cell?_alloc_at _ _ _ _ rfl]; rfl
      have v1 : V.cell? ⟨wr.heap.size, 1, none⟩ = some (.string (pfield (pickN L k))) := by rw [← hV, World.cell?_alloc_at _ _ _ _ rfl]; rfl
      have v2 : V.cell? ⟨wr.heap.size, 2, none⟩ = some (.slice A (subs (pickN L k)).length C) := by rw [← hV, World.cell?_alloc_at _ _ _ _ rfl]; rfl
      have HBV : Hid (Below w.heap.size w V) := hBr.trans (hBV.mono hBr.size)
      have d0 := cell_regrown v0
      have d1 := cell_regrown v1
      have d2 := cell_regrown v2
      have cQ : ∀ d' os, Calls Try.prog 49 #[.agg #[.string (nick (pickN L k)), .string (pfield (pickN L k)), .slice A (subs (pickN L k)).length C]] (grow (redrawn V d') os) fun e w'' => e = .returned (.string (called (pickN L k))) ∧ ∃ r : Regrown, w'' = grow (redrawn V r.d) r.os := fun d' os => Calls.regrown_of (qcalled_any _ _ _ _ _ _)
      have cR : ∀ d' os, Calls Try.prog 50 #[.agg #[.string (nick (pickN L k)), .string (pfield (pickN L k)), .slice A (subs (pickN L k)).length C]] (grow (redrawn V d') os) fun e w'' => e = .returned (.string (called (pickN L k))) ∧ ∃ r : Regrown, w'' = grow (redrawn V r.d) r.os := fun d' os => Calls.regrown_of (rcalled_any d (pickN L k) A _ C _)
      clear hBV hBr s0 s1 hC
      generalize called (pickN L k) = ck at *
      go_wp2_with fail
      clear hV c0 c1 c2 v0 v1 v2
      refine wp_region_quiet_below (by kernel_rfl) (by kernel_rfl) ?_
      repeat (go_big_quiet_step (first | exact cQ _ _ | exact cR _ _))
      refine wpQuiet_nil ?_
      intro _ hw'
      obtain ⟨⟨dq, osq⟩, hw''⟩ := hw'
      subst hw''
      have hB3 := below_regrown V dq osq
      generalize grow (redrawn V dq) osq = w6 at *
      have HB6 : Hid (Below w.heap.size w w6) := HBV.out.trans (hB3.mono HBV.out.size)
      clear hB3 d0 d1 d2 cQ cR
      go_wp2_with fail
      go_roundw
      case rel => exact ⟨k + 1, by omega, by go_num, HB6.out⟩
      case measure => simp [intOf]; omega
    · have hlt0 : ¬ (k : Int) < (L.length : Int) := by omega
      have HBr := hidI hBr
      clear hBr hlt
      go_wp2_with fail
      go_ret
      exact ⟨rfl, HBr.out⟩
end Go.Proofs.Ytjjggefmmeminaa
