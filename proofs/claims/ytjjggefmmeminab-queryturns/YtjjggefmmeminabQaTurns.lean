/-
  The walk of stitchlaw4.QueryTurns.
-/
import Derived.Test.YtjjggefmmeminabQaAlive
import Derived.Test.YtjjggefmmeminabQuTurn
import Derived.Deep.CutRange
namespace Go.Proofs.Ytjjggefmmeminab
open Go.RowKit Go.Sort Go.PlainAid

theorem print_ok {d : Nat} {type key : ByteArray} {L : List (Pick d)} (h : (printA d type key L).2 = 0) : (printA d type key L).1 = textA d type key L ∧ wA d type key L = 0 ∧ (textA d type key L).size ≤ 1000 := by
  unfold printA at *
  by_cases h0 : wA d type key L = 0
  · rw [if_neg (by simp [h0])] at h ⊢
    by_cases h1 : 1000 < (textA d type key L).size
    · rw [if_pos h1] at h; cases h
    · rw [if_neg h1]; exact ⟨rfl, h0, by omega⟩
  · rw [if_pos h0] at h; exact absurd h h0
theorem print_much {d : Nat} {type key : ByteArray} {L : List (Pick d)} (h0 : wA d type key L = 0) (h : (printA d type key L).2 ≠ 0) : (printA d type key L).2 = 3 := by
  unfold printA at *
  rw [if_neg (by simp [h0])] at h ⊢
  by_cases h1 : 1000 < (textA d type key L).size
  · rw [if_pos h1]
  · rw [if_neg h1] at h; exact absurd rfl h
/-- What is asked, and a fault, in two new blocks. -/
theorem two_boxes (w : World) (t k : ByteArray) (a : Option Addr) (n c : Nat) (x y : Int) (W : World) (hW : W = (w.alloc (Obj.cells #[.string t, .string k, .slice a n c] 24)).alloc (Obj.cells #[.int .i64 x, .int .i64 y] 30)) :
    Below w.heap.size w W ∧ ABox W w.heap.size t k a n c ∧ W.heap[w.heap.size + 1]? = some (.cells #[.int .i64 x, .int .i64 y] 30 (0, 0)) := by
  have hsz : (w.alloc (Obj.cells #[.string t, .string k, .slice a n c] 24)).heap.size = w.heap.size + 1 := by simp
  refine ⟨by rw [hW]; exact below2 _ _ _, ?_, ?_⟩
  · rw [hW]; exact (Below.heap_alloc _ _ _ (by simp)).trans (heap_alloc_new _ _)
  · rw [hW, ← hsz]; exact heap_alloc_new _ _

theorem not_box {w : World} {b : Nat} {x y : Int} (hf : w.heap[b]? = some (.cells #[.int .i64 x, .int .i64 y] 30 (0, 0))) {p : Addr} {v : Value} (hp : w.cell? p = some v) (hv : ∀ k, v ≠ .int .i64 k) : p.block ≠ b := by
  intro e
  obtain ⟨pb, po, ps⟩ := p
  have e' : pb = b := e
  subst e'
  have hs : ps = none := World.cell?_spot hp
  subst hs
  unfold World.cell? at hp
  rw [hf] at hp
  match po, hp with
  | 0, hp => simp at hp; exact hv x hp.symm
  | 1, hp => simp at hp; exact hv y hp.symm
  | n + 2, hp => simp at hp
theorem PicksAt.boxed {w Z : World} {b : Nat} {x y u v : Int} (hx : Boxed w Z b u v) (hf : w.heap[b]? = some (.cells #[.int .i64 x, .int .i64 y] 30 (0, 0))) : ∀ {d : Nat} {a : Option Addr} {L : List (Pick d)}, PicksAt w d a L → PicksAt Z d a L
  | 0, _, _, _ => trivial
  | _ + 1, _, _, h => ⟨h.1, fun i hi => let ⟨b', o, A, C, e, c0, c1, c2, hc, s0, s1, hs⟩ := h.2 i hi; ⟨b', o, A, C, e, hx.cell c0 (not_box hf c0 (fun _ h => by cases h)), hx.cell c1 (not_box hf c1 (fun _ h => by cases h)), hx.cell c2 (not_box hf c2 (fun _ h => by cases h)), hc, s0, s1, hs.boxed hx hf⟩⟩

set_option maxRecDepth 100000 in
set_option maxHeartbeats 4000000 in
theorem queryTurns_any (s : ByteArray) (d : Nat) (type key : ByteArray) (a : Option Addr) (cap : Nat) (L : List (Pick d)) (w : World) (hP : PicksAt w d a L) (hcap : L.length ≤ cap) (hs : Small s) (hs0 : Small type) (hs1 : Small key) :
    Calls Try.prog 3 #[.string s, .agg #[.string type, .string key, .slice a L.length cap]] w fun e w' => e = .returned (.bool true) ∧ Below w.heap.size w w' := by
  generalize hW : w.alloc (Obj.cells #[.string type, .string key, .slice a L.length cap] 24) = W
  have hBW : Below w.heap.size w W := by rw [← hW]; exact below1 _ _
  have hab : ABox W w.heap.size type key a L.length cap := by rw [← hW]; exact heap_alloc_new _ _
  have hcl := alive4_any W
  have HP := hidI hP
  have HBW := hidI hBW
  have HAB := hidI hab
  clear hP hBW hab
  go_enter Try.func3, Try.ntmps3
  go_wp2_with fail
  clear hW
  refine hcl.mono ?_
  clear hcl
  rintro e w1 ⟨rfl, hw1⟩
  have HB1 := hidI hw1
  have ha1 := HAB.out.kept hw1
  have c0 := ha1.c0
  have c1 := ha1.c1
  have c2 := ha1.c2
  have hBw1 : Below w.heap.size w w1 := HBW.out.trans (hw1.mono HBW.out.size)
  have hcl := print_any d type key a cap L w1 (HP.out.kept hBw1) hcap hs0 hs1
  have HPO : Hid ((printA d type key L).2 = 0 → (printA d type key L).1 = textA d type key L ∧ wA d type key L = 0 ∧ (textA d type key L).size ≤ 1000) := print_ok
  generalize printA d type key L = pr at *
  clear hw1 ha1 hBw1
  go_wp2_with fail
  refine hcl.mono ?_
  clear hcl
  rintro e w2 ⟨rfl, hw2⟩
  have HB2 : Hid (Below W.heap.size W w2) := HB1.out.trans (hw2.mono HB1.out.size)
  clear hw2 HB1 c0 c1 c2
  go_upto_if 22 with fail
  go_cut [] from 5 to 84 (fun wx => Below W.heap.size W wx)
  case first =>
    by_cases h0 : pr.2 = 0
    case neg =>
      have h0' : (pr.2 == 0) = false := by simpa using h0
      clear h0
      go_wp2_with fail
      go_meet
      exact HB2.out
    have h0' : (pr.2 == 0) = true := by simpa using h0
    obtain ⟨e1, e2, e3⟩ := HPO.out h0
    obtain ⟨M, hM, hA⟩ := parse_print e2 e3
    have hcl := parse_any pr.1 w2 (by rw [e1]; unfold Small maxLen; omega)
    rw [← e1] at hM
    have HM := hidI hM
    have HA := hidI hA
    clear h0 e1 e2 e3 hM hA HPO
    go_wp2_with fail
    refine hcl.mono ?_
    clear hcl
    rintro e w3 ⟨hok, -, hw3⟩
    obtain ⟨b, c, rfl, hc, hQ⟩ : ∃ b c, e = .returned (.tuple #[.agg #[.string type, .string key, .slice b M.length c], .agg #[.int .i64 0, .int .i64 0]]) ∧ M.length ≤ c ∧ PicksAt w3 8 b M := hok _ HM.out
    obtain ⟨V, hV⟩ : ∃ V, V = (w3.alloc (Obj.cells #[.string type, .string key, .slice b M.length c] 24)).alloc (Obj.cells #[.int .i64 0, .int .i64 0] 30) := ⟨_, rfl⟩
    obtain ⟨hBV, hbb, hff⟩ := two_boxes w3 type key b M.length c 0 0 V hV
    have HB3 : Hid (Below W.heap.size W V) := HB2.out.trans ((hw3.trans (hBV.mono hw3.size)).mono HB2.out.size)
    have hBwV : Below w.heap.size w V := HBW.out.trans (HB3.out.mono HBW.out.size)
    have haV := HAB.out.kept HB3.out
    have hcl := same_any d 8 type key a b cap c L M V (HP.out.kept hBwV) (hQ.kept hBV) HA.out
    have c0 := haV.c0
    have c1 := haV.c1
    have c2 := haV.c2
    have k0 := hbb.c0
    have k1 := hbb.c1
    have k2 := hbb.c2
    obtain ⟨f0, -, -, -⟩ := box_cells hff
    clear hok hw3 hQ hBV hbb hff hBwV haV
    rw [hV] at hcl c0 c1 c2 k0 k1 k2 f0
    go_wp2_with fail
    rw [← hV] at hcl
    rw [← hV]
    refine hcl.mono ?_
    clear hcl hV
    rintro e w4 ⟨rfl, hw4⟩
    have HB4 : Hid (Below W.heap.size W w4) := HB3.out.trans (hw4.mono HB3.out.size)
    clear hw4 c0 c1 c2 k0 k1 k2 f0
    go_wp2_with fail
    go_meet
    exact HB4.out
  case rest =>
    obtain ⟨w3, hren⟩ : ∃ w3, w3 = wc := ⟨_, rfl⟩
    subst hren
    have HB3 : Hid (Below w.heap.size w w3) := HBW.out.trans (hcut.mono HBW.out.size)
    have hcl := parse_any s w3 hs
    clear hcut HB2 HPO HP HAB HBW
    go_wp2_with fail
    refine hcl.mono ?_
    clear hcl
    rintro e w4 ⟨hok, herr, hw4⟩
    have HB4 : Hid (Below w.heap.size w w4) := HB3.out.trans (hw4.mono HB3.out.size)
    clear hw4 HB3
    cases hp : parse s with
    | error x =>
      have he := herr x hp
      subst he
      obtain ⟨hx1, hx2⟩ := parse_err hp
      have hx1' : (x.1 != 0) = true := by simpa using hx1
      have hx2' : (x.2 : Int) ≤ (s.size : Int) := by omega
      have hx0 : (0 : Int) ≤ (x.2 : Int) := by omega
      obtain ⟨V, hV⟩ : ∃ V, V = (w4.alloc (Obj.cells #[.string ⟨#[]⟩, .string ⟨#[]⟩, .slice none 0 0] 24)).alloc (Obj.cells #[.int .i64 x.1, .int .i64 (x.2 : Int)] 30) := ⟨_, rfl⟩
      obtain ⟨hBV, hbb, hff⟩ := two_boxes w4 ⟨#[]⟩ ⟨#[]⟩ none 0 0 x.1 x.2 V hV
      have HBV : Hid (Below w.heap.size w V) := HB4.out.trans (hBV.mono HB4.out.size)
      have hcl : Calls Try.prog 15 #[.agg #[.string ⟨#[]⟩, .string ⟨#[]⟩, .slice none 0 0], .agg #[.string ⟨#[]⟩, .string ⟨#[]⟩, .slice none 0 0]] V fun e w' => e = .returned (.bool true) ∧ Below V.heap.size V w' := same_any 0 0 ⟨#[]⟩ ⟨#[]⟩ none none 0 0 [] [] V PicksAt.none PicksAt.none rfl
      have k0 := hbb.c0
      have k1 := hbb.c1
      have k2 := hbb.c2
      obtain ⟨f0, f1, -, -⟩ := box_cells hff
      have HFF := hidI hff
      clear hok herr hBV hbb hff hx1 hx2 hp
      rw [hV] at hcl k0 k1 k2 f0 f1
      go_wp2_with fail
      rw [← hV] at hcl
      rw [← hV]
      refine hcl.mono ?_
      clear hcl k0 k1 k2 f0 f1 hV
      rintro e w5 ⟨rfl, hw5⟩
      obtain ⟨f0, f1, -, -⟩ := box_cells ((hw5.block _ (lt_of_block HFF.out)).trans HFF.out)
      have HB5 : Hid (Below w.heap.size w w5) := HBV.out.trans (hw5.mono HBV.out.size)
      clear hw5
      go_wp2_with fail
      go_ret
      exact ⟨rfl, HB5.out⟩
    | ok r =>
      obtain ⟨b, c, rfl, hc, hQ⟩ := hok r hp
      have hright := parse_right hp
      obtain ⟨V, hV⟩ : ∃ V, V = (w4.alloc (Obj.cells #[.string r.1, .string r.2.1, .slice b r.2.2.length c] 24)).alloc (Obj.cells #[.int .i64 0, .int .i64 0] 30) := ⟨_, rfl⟩
      obtain ⟨hBV, hbb, hff⟩ := two_boxes w4 r.1 r.2.1 b r.2.2.length c 0 0 V hV
      have HBV : Hid (Below w.heap.size w V) := HB4.out.trans (hBV.mono HB4.out.size)
      have hsm : Small r.1 ∧ Small r.2.1 := by
        obtain ⟨-, h1, h2⟩ := text_right hright
        exact ⟨by unfold Small maxLen; omega, by unfold Small maxLen; omega⟩
      have hcl := qwrong_any 8 r.1 r.2.1 b c r.2.2 V (hQ.kept hBV) hsm.1 hsm.2
      rw [hright] at hcl
      have HQV := hidI (hQ.kept hBV)
      have HBB := hidI hbb
      have HFF := hidI hff
      have HSM := hidI hsm
      have HRT := hidI hright
      have k0 := hbb.c0
      have k1 := hbb.c1
      have k2 := hbb.c2
      obtain ⟨f0, f1, -, -⟩ := box_cells hff
      clear hok herr hBV hbb hff hp hQ hsm hright
      rw [hV] at hcl k0 k1 k2 f0 f1
      go_wp2_with fail
      rw [← hV] at hcl
      rw [← hV]
      refine hcl.mono ?_
      clear hcl k0 k1 k2 f0 f1 hV
      rintro e w5 ⟨rfl, hw5⟩
      have HB5 : Hid (Below w.heap.size w w5) := HBV.out.trans (hw5.mono HBV.out.size)
      have HQ5 := hidI (HQV.out.kept hw5)
      have hb5 := HBB.out.kept hw5
      have HF5 : Hid (w5.heap[w4.heap.size + 1]? = some (.cells #[.int .i64 0, .int .i64 0] 30 (0, 0))) := (hw5.block _ (lt_of_block HFF.out)).trans HFF.out
      have k0 := hb5.c0
      have k1 := hb5.c1
      have k2 := hb5.c2
      have hcl := print_any 8 r.1 r.2.1 b c r.2.2 w5 HQ5.out hc HSM.out.1 HSM.out.2
      have HPO : Hid ((printA 8 r.1 r.2.1 r.2.2).2 = 0 → (printA 8 r.1 r.2.1 r.2.2).1 = textA 8 r.1 r.2.1 r.2.2 ∧ wA 8 r.1 r.2.1 r.2.2 = 0 ∧ (textA 8 r.1 r.2.1 r.2.2).size ≤ 1000) := print_ok
      have HPM : Hid ((printA 8 r.1 r.2.1 r.2.2).2 ≠ 0 → (printA 8 r.1 r.2.1 r.2.2).2 = 3) := print_much HRT.out
      generalize printA 8 r.1 r.2.1 r.2.2 = pq at *
      have HB5b := hidI hb5
      clear hw5 hb5 HQV HBB HFF HBV
      go_wp2_with fail
      refine hcl.mono ?_
      clear hcl k0 k1 k2
      rintro e w6 ⟨rfl, hw6⟩
      have HB6 : Hid (Below w.heap.size w w6) := HB5.out.trans (hw6.mono HB5.out.size)
      by_cases h0 : pq.2 = 0
      case neg =>
        have h0' : (pq.2 != 0) = true := by simpa using h0
        have h3 : (pq.2 == 3) = true := by rw [HPM.out h0]; rfl
        clear h0 hw6
        go_wp2_with fail
        go_ret
        exact ⟨rfl, HB6.out⟩
      have h0' : (pq.2 != 0) = false := by simpa using h0
      obtain ⟨e1, e2, e3⟩ := HPO.out h0
      obtain ⟨M, hM, hA⟩ := parse_print e2 e3
      have hcl := parse_any pq.1 w6 (by rw [e1]; unfold Small maxLen; omega)
      rw [← e1] at hM
      have HM := hidI hM
      have HA := hidI hA
      have HQ6 := hidI (HQ5.out.kept hw6)
      have HB6b := hidI (HB5b.out.kept hw6)
      have HF6 : Hid (w6.heap[w4.heap.size + 1]? = some (.cells #[.int .i64 0, .int .i64 0] 30 (0, 0))) := (hw6.block _ (lt_of_block HF5.out)).trans HF5.out
      clear h0 e1 e2 e3 hM hA HPO HPM hw6 HQ5 HB5b HF5
      go_wp2_with fail
      refine hcl.mono ?_
      clear hcl
      rintro e w7 ⟨hok, -, hw7⟩
      obtain ⟨b7, c7, rfl, hc7, hQ7⟩ : ∃ b7 c7, e = .returned (.tuple #[.agg #[.string r.1, .string r.2.1, .slice b7 M.length c7], .agg #[.int .i64 0, .int .i64 0]]) ∧ M.length ≤ c7 ∧ PicksAt w7 8 b7 M := hok _ HM.out
      have HB7 : Hid (Below w.heap.size w w7) := HB6.out.trans (hw7.mono HB6.out.size)
      have hf7 : w7.heap[w4.heap.size + 1]? = some (.cells #[.int .i64 0, .int .i64 0] 30 (0, 0)) := (hw7.block _ (lt_of_block HF6.out)).trans HF6.out
      have hb7 := HB6b.out.kept hw7
      obtain ⟨f0, f1, y0, y1⟩ := box_cells hf7
      have HBX := hidI (boxed_set (u := 0) (v := 0) hf7)
      have HQX := hidI ((HQ6.out.kept hw7).boxed HBX.out hf7)
      have HQY := hidI (hQ7.boxed HBX.out hf7)
      have HBw : Hid (Below w.heap.size w ((w7.setCell ⟨w4.heap.size + 1, 0, none⟩ (.int .i64 0)).setCell ⟨w4.heap.size + 1, 1, none⟩ (.int .i64 0))) := HBX.out.below HB7.out (by have := HB4.out.size; omega) HB7.out.size
      have q0 := HBX.out.cell hb7.c0 (by show w4.heap.size ≠ w4.heap.size + 1; omega)
      have q1 := HBX.out.cell hb7.c1 (by show w4.heap.size ≠ w4.heap.size + 1; omega)
      have q2 := HBX.out.cell hb7.c2 (by show w4.heap.size ≠ w4.heap.size + 1; omega)
      have g0 := HBX.out.c0
      generalize hX : (w7.setCell ⟨w4.heap.size + 1, 0, none⟩ (.int .i64 0)).setCell ⟨w4.heap.size + 1, 1, none⟩ (.int .i64 0) = X7 at *
      have hsX : X7.heap.size = w7.heap.size := by rw [← hX]; simp
      have hb1 : w4.heap.size + 1 < w7.heap.size := lt_of_block hf7
      have hb0 : w4.heap.size < w7.heap.size := by omega
      have hBU := below1 X7 (Obj.cells #[.string r.1, .string r.2.1, .slice b7 M.length c7] 24)
      have hcl := same_any 8 8 r.1 r.2.1 b b7 c c7 r.2.2 M _ (HQX.out.kept hBU) (HQY.out.kept hBU) HA.out
      have HBU : Hid (Below w.heap.size w (X7.alloc (Obj.cells #[.string r.1, .string r.2.1, .slice b7 M.length c7] 24))) := HBw.out.trans (hBU.mono HBw.out.size)
      clear hok hw7 hQ7 hf7 hb7 hBU HBX HQX HQY HBw
      go_wp2_with fail
      refine hcl.mono ?_
      clear hcl
      rintro e w8 ⟨rfl, hw8⟩
      have HB8 : Hid (Below w.heap.size w w8) := HBU.out.trans (hw8.mono HBU.out.size)
      clear hw8
      go_wp2_with fail
      go_ret
      exact ⟨rfl, HB8.out⟩
end Go.Proofs.Ytjjggefmmeminab
