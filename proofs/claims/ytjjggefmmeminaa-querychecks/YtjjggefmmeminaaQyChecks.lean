/-
  The walk of stitchlaw4.QueryChecks.
-/
import Derived.Test.YtjjggefmmeminaaQyCheckW
import Derived.Test.YtjjggefmmeminaaRyCheck
namespace Go.Proofs.Ytjjggefmmeminaa
open Go.RowKit Go.Sort Go.PlainAid

set_option maxRecDepth 100000 in
set_option maxHeartbeats 1000000 in
theorem queryChecks_any (pa : Option Addr) (pn pcap : Nat) (P : Nat → LPart) (d : Nat) (type key : ByteArray) (a : Option Addr) (cap : Nat) (L : List (Pick d)) (w : World) (hPA : PartsAt w pa pn P) (hP : PicksAt w d a L) (hcap : L.length ≤ cap) (hs0 : Small type) (hs1 : Small key) :
    Calls Try.prog 14 #[.slice pa pn pcap, .agg #[.string type, .string key, .slice a L.length cap]] w fun e w' => e = .returned (.bool true) ∧ Below w.heap.size w w' := by
  generalize hW : w.alloc (Obj.cells #[.string type, .string key, .slice a L.length cap] 87) = W
  have hBW : Below w.heap.size w W := by rw [← hW]; exact below1 _ _
  have c0 : W.cell? ⟨w.heap.size, 0, none⟩ = some (.string type) := by rw [← hW, World.cell?_alloc_at _ _ _ _ rfl]; rfl
  have c1 : W.cell? ⟨w.heap.size, 1, none⟩ = some (.string key) := by rw [← hW, World.cell?_alloc_at _ _ _ _ rfl]; rfl
  have c2 : W.cell? ⟨w.heap.size, 2, none⟩ = some (.slice a L.length cap) := by rw [← hW, World.cell?_alloc_at _ _ _ _ rfl]; rfl
  have d0 := cell_regrown c0
  have d1 := cell_regrown c1
  have d2 := cell_regrown c2
  have cQ : ∀ d' os, Calls Try.prog 51 #[.slice pa pn pcap, .agg #[.string type, .string key, .slice a L.length cap]] (grow (redrawn W d') os) fun e w'' => e = .returned (.int .i64 (cA pn P d type key L)) ∧ ∃ r : Regrown, w'' = grow (redrawn W r.d) r.os := fun d' os => Calls.regrown_of (qcheck_any _ _ _ _ _ _ _ _ _ _ _ ((hPA.kept hBW).kept (below_regrown W d' os)) ((hP.kept hBW).kept (below_regrown W d' os)) hcap hs0 hs1)
  have cR : ∀ d' os, Calls Try.prog 52 #[.slice pa pn pcap, .agg #[.string type, .string key, .slice a L.length cap]] (grow (redrawn W d') os) fun e w'' => e = .returned (.int .i64 (cA pn P d type key L)) ∧ ∃ r : Regrown, w'' = grow (redrawn W r.d) r.os := fun d' os => Calls.regrown_of (rcheck_any _ _ _ _ _ _ _ _ _ _ _ ((hPA.kept hBW).kept (below_regrown W d' os)) ((hP.kept hBW).kept (below_regrown W d' os)) hcap hs0 hs1)
  have HBW := hidI hBW
  clear hBW hPA hP c0 c1 c2
  generalize cA pn P d type key L = r at *
  go_enter Try.func14, Try.ntmps14
  go_wp2_with fail
  clear hW
  refine wp_region_quiet_below (by kernel_rfl) (by kernel_rfl) ?_
  repeat (go_big_quiet_step (first | exact cQ _ _ | exact cR _ _))
  refine wpQuiet_nil ?_
  intro _ hw'
  obtain ⟨⟨dq, osq⟩, hw''⟩ := hw'
  subst hw''
  have hB2 := below_regrown W dq osq
  have HB2 : Hid (Below w.heap.size w (grow (redrawn W dq) osq)) := HBW.out.trans (hB2.mono HBW.out.size)
  clear hB2
  go_wp2_with fail
  go_ret
  exact ⟨by simp, HB2.out⟩
end Go.Proofs.Ytjjggefmmeminaa
