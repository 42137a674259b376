/-
  Proved: stitchlaw5.ServeFields, called with any services and any request, returns true and leaves its arguments as they were. No condition.
-/
import Derived.Test.YtjjggefmmeminabSvFields
import Derived.Test.YtjjggefmmeminabSvOpen
import Derived.Test.YtjjggefmmeminabChOpen
import Derived.ProofKit
namespace Go.Proofs.Ytjjggefmmeminab
open Go.ChangeShapes Go.WideShapes Go.ChangeAt Go.RowKit Go.Joins Go.Deep

section
variable {H : Type} {enc : TypeId × Value → H} {w : World} {base : Nat} {spare : Nat → Bool} {held : Bool}
theorem open_serviceB {fuel : Nat} {cs : List Value} {x : DataW H × List MemPlace} (h : DataW.trod enc Try.prog w base spare held fuel 74 cs = some x) (hL : Lgt 74 x.1) :
    ∃ s : LServ, cs = [.slice s.ta s.nt s.tcap, .slice s.ca s.nc s.ccap, .slice s.xa s.nx s.xcap] ∧ ServOk w s ∧ LightS (toS s) := by
  obtain ⟨y0, y1, y2, m, he, hl, h0, h1, h2⟩ := trod_struct3 Try.underlying74 h
  rw [Try.cellsSvc] at hl
  obtain ⟨c0, c1, c2, rfl⟩ := list3 hl
  rw [he] at hL
  have hL2 := Lgt.part Try.underlying74 hL (j := 2) rfl rfl
  simp [Try.cellsTys, Try.cellsChs, Try.cellsThs] at h0 h1 h2
  obtain ⟨a0, n0, d0, T, e0, q0, r0⟩ := open_types h0
  obtain ⟨a1, n1, d1, C, e1, -, r1⟩ := open_changes h1
  obtain ⟨a2, n2, d2, X, e2, q2, r2, r3⟩ := open_thingsL h2 hL2
  simp at e0 e1 e2
  exact ⟨⟨a0, n0, d0, T, a1, n1, d1, C, a2, n2, d2, X⟩, by simp [e0, e1, e2], ⟨r0, r1, r2, q0, q2⟩, r3⟩
theorem open_servicesB {fuel : Nat} {cs : List Value} {x : DataW H × List MemPlace} (h : DataW.trod enc Try.prog w base spare held fuel 39 cs = some x) (hL : Lgt 39 x.1) :
    ∃ (a : Option Addr) (n cap : Nat) (V : Nat → LServ), cs = [.slice a n cap] ∧ n ≤ cap ∧ ServsAt w a n V ∧ ∀ i, i < n → LightS (toS (V i)) := by
  obtain ⟨a, n, cap, V, rfl, hl, hm, -, hV⟩ := open_elsL (⟨none, 0, 0, fun _ => ⟨ByteArray.empty, none, 0, 0, fun _ => ⟨ByteArray.empty, 0, ByteArray.empty⟩⟩, none, 0, 0, fun _ => ⟨0, ByteArray.empty, ByteArray.empty, ByteArray.empty⟩, none, 0, 0, fun _ => noThing⟩ : LServ) Try.underlying39 Try.cellsSvc (by decide) (fun s : LServ => [.slice s.ta s.nt s.tcap, .slice s.ca s.nc s.ccap, .slice s.xa s.nx s.xcap]) (fun s => ServOk w s ∧ LightS (toS s)) (fun h hL => open_serviceB h hL) h hL
  refine ⟨a, n, cap, V, rfl, hl, ⟨hm, fun i hi => ?_⟩, fun i hi => ?_⟩
  · obtain ⟨b, o, ha, hc, hg, -⟩ := hV i hi
    exact ⟨b, o, ha, by simpa using hc 0 (by decide), by simpa using hc 1 (by decide), by simpa using hc 2 (by decide), hg⟩
  · obtain ⟨b, o, ha, hc, -, hg⟩ := hV i hi
    exact hg
end

set_option maxRecDepth 100000 in
theorem serveFields_lifted (os : Os) (started : os.Started) (H : Type) (enc : TypeId × Value → H) :
    ReturnsInHanded {} Try.checked os 7 .any (Rows.serveFieldsSpec.pre6 enc Try.prog Try.f7 Rows.serveFieldsRow.domain false) (Rows.serveFieldsSpec.post enc Try.prog Try.f7 false true false false) := by
  refine returnsInHanded_of_change_sized (C := Try.checked) Try.own started (by kernel_rfl) Try.func7
    (ChangeSpec.witness6 (enc := enc) (C := Try.checked) false ⟨#[], #[.slice none 0 0, .agg #[.int .i64 0, .string ⟨#[]⟩, .slice none 0 0, .slice none 0 0]], []⟩ 8 (by kernel_rfl) (by kernel_rfl) (by kernel_rfl) (by kernel_rfl)) ?_
  intro W base args ds gs before hval0 hW hcnd hsz0 _
  have hsz : (DataW.weightsEach Try.prog (Try.f7.params.toList ++ Rows.serveFieldsSpec.plain.varTypes Try.prog) (ds ++ gs)).all (· ≤ reachBytes) = true := hsz0
  have hval : ∀ (j : Nat) t v, Try.f7.params[j]? = some t → args[j]? = some v → Value.okWide Try.prog W .any base t v := hval0
  have hW' := hW
  obtain ⟨p, q, hA0, hV, rfl, hfz, hnd⟩ := hW
  have hA : DataW.TrodAll enc Try.prog W 0 (fun _ => true) true Try.f7.params.toList args.toList ds p := hA0
  rw [Try.params7] at hA hval hsz
  obtain ⟨v0, v1, d0, d1, p0, p1, rfl, rfl, rfl, h0, h1⟩ := trodAll_two hA
  obtain ⟨rfl, rfl⟩ := trodVars_none hV
  obtain ⟨a0, len0, cap0, rfl⟩ := okWide_slice Try.underlying39 (hval 0 39 v0 rfl rfl)
  have h0k := h0
  have h1k := h1
  obtain ⟨fuel0, hf0⟩ := h0
  obtain ⟨u0, u1, u2, u3, y0, y1, y2, y3, m, rfl, hd1, -, -⟩ := open_agg4 Try.underlying42 (by kernel_rfl) Try.cellsReq (hval 1 42 v1 rfl rfl) h1
  obtain ⟨fuel1, hf1⟩ := h1
  clear hA0 hval0
  simp only [List.append_nil] at hW'
  have hlt0 : ∀ x ∈ p0, x.block < W.heap.size := fun x hx => by simpa using hW'.lt x (by simp [hx])
  have hlt1 : ∀ x ∈ p1, x.block < W.heap.size := fun x hx => by simpa using hW'.lt x (by simp [hx])
  have hL0 : Lgt 39 d0 := fun x hx => by simpa using List.all_eq_true.1 hsz x (DataW.weights_mem_each (j := 0) (t := 39) (d := d0) rfl rfl x hx)
  have hL1 : Lgt 42 d1 := fun x hx => by simpa using List.all_eq_true.1 hsz x (DataW.weights_mem_each (j := 1) (t := 42) (d := d1) rfl rfl x hx)
  obtain ⟨a, n, cap, V, e0, -, hS, hLS⟩ := open_servicesB hf0 hL0
  simp [Value.cells] at e0
  obtain ⟨rfl, rfl, rfl⟩ := e0
  obtain ⟨r, e1, hr, hrk⟩ := open_req hf1 hL1
  simp [Value.cells] at e1
  obtain ⟨rfl, rfl, rfl, rfl⟩ := e1
  have hrk' : r.nk * 16 ≤ 140737488355328 := by unfold reachBytes at hrk; omega
  refine (serveFields_any a0 len0 cap0 V r W hS hLS hr hrk').mono fun e W' ⟨he, hnx⟩ => ?_
  subst he
  refine ⟨_, rfl, _, _, _, [], p0 ++ p1, [], hW', ?_, ?_, rfl, hnx.frame _, fun h => by cases h⟩
  · exact trodAll_mk1 (shut_bool Try.underlying4 true)
  · exact trodAll_mk2 (Below.trod Try.laidOut (by kernel_rfl) (of_decide_eq_true (by kernel_rfl)) h0k hnx hlt0) (Below.trod Try.laidOut (by kernel_rfl) (of_decide_eq_true (by kernel_rfl)) h1k hnx hlt1)

theorem serveFields_holds : Rows.ServeFieldsSaid :=
  OpenClaim.holds_of_wide 7 Try.f7 rfl rfl rfl rfl rfl rfl rfl ⟨rfl, rfl, rfl, rfl, rfl⟩ rfl rfl rfl rfl rfl (by kernel_rfl) Try.func7 (by kernel_rfl)
    (of_decide_eq_true (by kernel_rfl)) (by unfold Func.isWrapper; first | (rw [if_pos (by decide +kernel)]; kernel_rfl) | (rw [if_neg (by decide +kernel)]; exact ⟨rfl, rfl⟩))
    (fun os started H enc _ => serveFields_lifted os started H enc)
#print axioms serveFields_holds
end Go.Proofs.Ytjjggefmmeminab
