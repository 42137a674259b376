import Derived.Test.YtjjggefmmeminabGreatRfSim
import Derived.Test.YtjjggefmmeminabGreatRefThings
import Derived.Test.YtjjggefmmeminabGreatMgAll
/-
  The contracts of stitchref1.WrongServices and stitchref1.Part.
-/
namespace Go.Proofs.YtjjggefmmeminabGreat
open Go.RowKit Go.Sort Go.PlainAid

set_option maxRecDepth 100000 in
set_option maxHeartbeats 2000000 in
theorem refWS_any (a : Option Addr) (n cap : Nat) (V : Nat → LServ) (w : World) (hS : ServsAt w a n V) :
    Calls Tryz.prog 38 #[.slice a n cap] w fun e w' => e = .returned (faultV (wrongF n V)) ∧ Below w.heap.size w w' := by
  have hn : n ≤ 9223372036854775807 := hS.1
  have HS := Hid.intro hS
  clear hS
  generalize hW : w.alloc (Obj.cells #[.int .i64 0, .int .i64 0] 39) = W
  have hBW : Below w.heap.size w W := by rw [← hW]; exact below1 _ _
  have hbf : W.heap[w.heap.size]? = some (.cells #[.int .i64 0, .int .i64 0] 39 (0, 0)) := by rw [← hW]; exact heap_alloc_new _ _
  have HBW := Hid.intro hBW
  clear hBW
  by_cases h5 : 5 < n
  · have hF : Hid (wrongF n V = (4, 0)) := by unfold wrongF; rw [if_pos h5]; rfl
    have h5' : (5 : Int) < (n : Int) := by omega
    obtain ⟨d0, d1, z0, z1⟩ := box_cells hbf
    have HKZ : Hid (Below w.heap.size w ((W.setCell ⟨w.heap.size, 0, none⟩ (.int .i64 4)).setCell ⟨w.heap.size, 1, none⟩ (.int .i64 0))) := (HBW.out.setCell (Nat.le_refl _) _).setCell (Nat.le_refl _) _
    go_enter Tryz.func38, Tryz.ntmps38
    go_wp2_with fail
    clear hW
    exact bodyPost_ret (v := .agg #[.int .i64 4, .int .i64 0]) (by simp [results, Tryz.results38, go_sem, d0, d1]) rfl ⟨by rw [hF.out]; rfl, HKZ.out⟩
  have h5' : ¬ (5 : Int) < (n : Int) := by omega
  have hF : Hid (wrongF n V = fault n (fun i => wrongServ (V i))) := by unfold wrongF; rw [if_neg h5]; rfl
  have HBF := Hid.intro hbf
  clear h5 hbf
  go_enter Tryz.func38, Tryz.ntmps38
  go_wp2_with fail
  clear hW
  go_loopw [14] (fun i wr => ∃ k : Nat, k ≤ n ∧ i = .int .i64 k ∧ Hid (∀ j, j < k → wrongServ (V j) = 0) ∧ Below W.heap.size W wr) (fun i _ => n - (intOf i).toNat)
  case atStart => exact ⟨0, Nat.zero_le _, rfl, (fun j hj => absurd hj (Nat.not_lt_zero _)), Below.refl _ _⟩
  case round =>
    obtain ⟨k, hk, rfl, hb, hw⟩ := hrel
    by_cases hlt : k < n
    · obtain ⟨b, o, rfl, hs⟩ := ((HS.out.kept HBW.out).kept hw).2 k hlt
      have c0 := hs.c0
      have c1 := hs.c1
      have c2 := hs.c2
      have hok := hs.ok
      have hlt' : (k : Int) < (n : Int) := by omega
      have hk0 : (0 : Int) ≤ (k : Int) := by omega
      generalize hX : wr.alloc (Obj.cells #[.slice (V k).ta (V k).nt (V k).tcap, .slice (V k).ca (V k).nc (V k).ccap, .slice (V k).xa (V k).nx (V k).xcap] 81) = X
      have hBX : Below wr.heap.size wr X := by rw [← hX]; exact below1 _ _
      have b0 : X.cell? ⟨wr.heap.size, 0, none⟩ = some (.slice (V k).ta (V k).nt (V k).tcap) := by rw [← hX, World.cell?_alloc_at _ _ _ _ rfl]; rfl
      have b1 : X.cell? ⟨wr.heap.size, 1, none⟩ = some (.slice (V k).ca (V k).nc (V k).ccap) := by rw [← hX, World.cell?_alloc_at _ _ _ _ rfl]; rfl
      have b2 : X.cell? ⟨wr.heap.size, 2, none⟩ = some (.slice (V k).xa (V k).nx (V k).xcap) := by rw [← hX, World.cell?_alloc_at _ _ _ _ rfl]; rfl
      have HX : Hid (Below W.heap.size W X) := hw.trans (hBX.mono hw.size)
      have HOK := Hid.intro (hok.kept hBX)
      have hcl := refSee_any (V k).ta (V k).ca (V k).nt (V k).tcap (V k).nc (V k).ccap (V k).T (V k).C X HOK.out.types HOK.out.changes HOK.out.tcap
      rw [see_same] at hcl
      have HD : Hid (wrongServ (V k) = if (seeF (V k).nt (V k).T (V k).nc (V k).C).1 ≠ 0 then (seeF (V k).nt (V k).T (V k).nc (V k).C).1 else (wrongThings (V k).nt (V k).T (V k).nx (V k).X).1) := rfl
      clear hs hok hBX hw
      go_wp2_with fail
      clear hX c0 c1 c2
      refine hcl.mono ?_
      clear hcl
      rintro e w2 ⟨⟨x0, x1, fv, rfl, -, ⟨y0, l0, t0, rfl⟩, ⟨y1, l1, t1, rfl⟩, ⟨y2, l2, t2, rfl⟩⟩, hw2⟩
      generalize seeF (V k).nt (V k).T (V k).nc (V k).C = r at *
      unfold seeAgg
      generalize hY : (w2.alloc (Obj.cells #[.slice y0 l0 t0, .slice y1 l1 t1, .slice y2 l2 t2] 107)).alloc (Obj.cells #[.int .i64 r.1, .int .i64 r.2] 39) = Y
      have hBY : Below w2.heap.size w2 Y := by rw [← hY]; exact below2 _ _ _
      have hbg : Y.heap[w2.heap.size + 1]? = some (.cells #[.int .i64 r.1, .int .i64 r.2] 39 (0, 0)) := by
        rw [← hY, show w2.heap.size + 1 = (w2.alloc (Obj.cells #[.slice y0 l0 t0, .slice y1 l1 t1, .slice y2 l2 t2] 107)).heap.size by simp]; exact heap_alloc_new _ _
      have d0 : Y.cell? ⟨w2.heap.size + 1, 0, none⟩ = some (.int .i64 r.1) := by simp [World.cell?, hbg]
      have hXY : Below X.heap.size X Y := hw2.trans (hBY.mono hw2.size)
      have b0 := keptCell hXY b0
      have b2 := keptCell hXY b2
      have HY : Hid (Below W.heap.size W Y) := HX.out.trans (hXY.mono HX.out.size)
      have hbfY := (HY.out.block _ (lt_of_block HBF.out)).trans HBF.out
      obtain ⟨f0, f1, z0, z1⟩ := box_cells hbfY
      have HOKY := Hid.intro (HOK.out.kept hXY)
      clear hBY hbg hXY hw2 b1
      by_cases h0 : r.1 = 0
      case neg =>
        have hb0 : (r.1 != 0) = true := by simpa using h0
        have HE : Hid (fault n (fun i => wrongServ (V i)) = (r.1, (k : Int))) := by
          have e : wrongServ (V k) = r.1 := by rw [HD.out, if_pos h0]
          have := fault_hit (g := fun i => wrongServ (V i)) hlt (by show wrongServ (V k) ≠ 0; rw [e]; exact h0) hb.out
          rw [e] at this; exact this
        have HKZ : Hid (Below w.heap.size w ((Y.setCell ⟨w.heap.size, 0, none⟩ (.int .i64 r.1)).setCell ⟨w.heap.size, 1, none⟩ (.int .i64 (k : Int)))) := ((HBW.out.trans (HY.out.mono HBW.out.size)).setCell (Nat.le_refl _) _).setCell (Nat.le_refl _) _
        clear h0
        go_wp2_with fail
        exact bodyPost_ret (v := .agg #[.int .i64 r.1, .int .i64 (k : Int)]) (by simp [results, Tryz.results38, go_sem, f0, f1]) rfl ⟨by rw [hF.out, HE.out]; rfl, HKZ.out⟩
      have hb0 : (r.1 != 0) = false := by simpa using h0
      have HD2 : Hid (wrongServ (V k) = (wrongThings (V k).nt (V k).T (V k).nx (V k).X).1) := by rw [HD.out, if_neg (fun h => h h0)]; rfl
      have hcl := refThings_any (V k).ta (V k).xa (V k).nt (V k).tcap (V k).nx (V k).xcap (V k).T (V k).X Y HOKY.out.types HOKY.out.things HOKY.out.xcap
      clear h0 HD
      generalize wrongThings (V k).nt (V k).T (V k).nx (V k).X = y at *
      unfold faultV at hcl
      go_wp2_with fail
      clear hY d0
      refine hcl.mono ?_
      clear hcl
      rintro e w3 ⟨rfl, hw3⟩
      generalize hU : w3.alloc (Obj.cells #[.int .i64 y.1, .int .i64 y.2] 39) = U
      have hBU : Below w3.heap.size w3 U := by rw [← hU]; exact below1 _ _
      have d0 : U.cell? ⟨w3.heap.size, 0, none⟩ = some (.int .i64 y.1) := by rw [← hU, World.cell?_alloc_at _ _ _ _ rfl]; rfl
      have HU : Hid (Below W.heap.size W U) := HY.out.trans ((hw3.trans (hBU.mono hw3.size)).mono HY.out.size)
      have hbfU := (HU.out.block _ (lt_of_block HBF.out)).trans HBF.out
      obtain ⟨f0, f1, z0, z1⟩ := box_cells hbfU
      clear hBU hw3 hbfY b0 b2
      by_cases h0 : y.1 = 0
      case neg =>
        have hb1 : (y.1 != 0) = true := by simpa using h0
        have HE : Hid (fault n (fun i => wrongServ (V i)) = (y.1, (k : Int))) := by
          have := fault_hit (g := fun i => wrongServ (V i)) hlt (by show wrongServ (V k) ≠ 0; rw [HD2.out]; exact h0) hb.out
          rw [HD2.out] at this; exact this
        have HKZ : Hid (Below w.heap.size w ((U.setCell ⟨w.heap.size, 0, none⟩ (.int .i64 y.1)).setCell ⟨w.heap.size, 1, none⟩ (.int .i64 (k : Int)))) := ((HBW.out.trans (HU.out.mono HBW.out.size)).setCell (Nat.le_refl _) _).setCell (Nat.le_refl _) _
        clear h0
        go_wp2_with fail
        exact bodyPost_ret (v := .agg #[.int .i64 y.1, .int .i64 (k : Int)]) (by simp [results, Tryz.results38, go_sem, f0, f1]) rfl ⟨by rw [hF.out, HE.out]; rfl, HKZ.out⟩
      have hb1 : (y.1 != 0) = false := by simpa using h0
      have hb2 : Hid (∀ j, j < k + 1 → wrongServ (V j) = 0) := fun j hj => by
        rcases Nat.lt_succ_iff_lt_or_eq.1 hj with h | h
        · exact hb j h
        · rw [h, HD2.out]; exact h0
      clear h0
      go_wp2_with fail
      clear hU
      go_roundw
      case rel => exact ⟨k + 1, by omega, by go_num, hb2, HU.out⟩
      case measure => simp [intOf]; omega
    · have hkn : k = n := by omega
      have HE : Hid (fault n (fun i => wrongServ (V i)) = (0, 0)) := fault_none (g := fun i => wrongServ (V i)) (fun j hj => hb j (by omega))
      have hbfr := (hw.block _ (lt_of_block HBF.out)).trans HBF.out
      obtain ⟨f0, f1, z0, z1⟩ := box_cells hbfr
      have HKZ : Hid (Below w.heap.size w ((wr.setCell ⟨w.heap.size, 0, none⟩ (.int .i64 0)).setCell ⟨w.heap.size, 1, none⟩ (.int .i64 0))) := ((HBW.out.trans (hw.mono HBW.out.size)).setCell (Nat.le_refl _) _).setCell (Nat.le_refl _) _
      clear hw hbfr
      go_wp2_with fail
      exact bodyPost_ret (v := .agg #[.int .i64 0, .int .i64 0]) (by simp [results, Tryz.results38, go_sem, f0, f1]) rfl ⟨by rw [hF.out, HE.out]; rfl, HKZ.out⟩

def partPtr (L : List PPart) (g : Nat) (name : ByteArray) : Value := if mfind L name < 0 then .pointer none else .pointer (some ⟨g, (mfind L name).toNat * 4, none⟩)
set_option maxRecDepth 100000 in
set_option maxHeartbeats 1000000 in
theorem refPart_any (Z : Nat → Prop) (a : Option Addr) (n cap : Nat) (L : List PPart) (rv : Nat → Nat → Value) (name : ByteArray) (w : World) (hP : Parts Z w (.slice a n cap) L rv) :
    Calls Tryz.prog 19 #[.slice a n cap, .string name] w fun e w' => (∃ g, (0 < L.length → a = some ⟨g, 0, none⟩) ∧ e = .returned (partPtr L g name)) ∧ Below w.heap.size w w' := by
  obtain rfl := hP.shape
  have hn : L.length ≤ 9223372036854775807 := hP.nmax
  have hgx : ∃ g, 0 < L.length → a = some ⟨g, 0, none⟩ := by
    by_cases h : 0 < L.length
    · obtain ⟨g, c, e, -⟩ := hP.ptr h
      cases e; exact ⟨g, fun _ => rfl⟩
    · exact ⟨0, fun h' => absurd h' h⟩
  obtain ⟨g, hg⟩ := hgx
  have HG := Hid.intro hg
  have HP := Hid.intro hP
  clear hP hg
  go_enter Tryz.func19, Tryz.ntmps19
  go_wp2_with fail
  go_loopw [8] (fun i wr => ∃ k : Nat, k ≤ L.length ∧ i = .int .i64 k ∧ Hid (∀ j, j < k → eqs (nth L j).name name = false) ∧ Below w.heap.size w wr) (fun i _ => L.length - (intOf i).toNat)
  case atStart => exact ⟨0, Nat.zero_le _, rfl, (fun j hj => absurd hj (Nat.not_lt_zero _)), Below.refl _ _⟩
  case round =>
    obtain ⟨k, hk, rfl, hb, hw⟩ := hrel
    by_cases hlt : k < L.length
    · obtain ⟨k0, -, -, -⟩ : wr.cell? ⟨g, k * 4, none⟩ = some (.string (nth L k).name) ∧ True ∧ True ∧ True := by
        have h1 := HG.out (by omega)
        have h2 := HP.out.kept' hw
        subst h1
        exact ⟨(h2.cells hlt).1, trivial, trivial, trivial⟩
      have hga := HG.out (by omega)
      rw [hga]
      have hlt' : (k : Int) < (L.length : Int) := by omega
      have hk0 : (0 : Int) ≤ (k : Int) := by omega
      have HGA := Hid.intro hga
      clear hga
      cases hpk : ((nth L k).name.toList == name.toList) with
      | true =>
        have hfin : Hid (mfind L name = (k : Int)) := idx_hit hlt (by show eqs (nth L k).name name = true; rw [← eqs_eq]; exact hpk) hb
        go_wp2_with fail
        go_ret
        refine ⟨⟨g, fun _ => HGA.out, ?_⟩, hw⟩
        unfold partPtr
        rw [hfin.out, if_neg (by omega), Int.toNat_natCast]; rfl
      | false =>
        have hb2 : Hid (∀ j, j < k + 1 → eqs (nth L j).name name = false) := fun j hj => by
          rcases Nat.lt_succ_iff_lt_or_eq.1 hj with h | h
          · exact hb j h
          · rw [h, ← eqs_eq]; exact hpk
        go_wp2_with fail
        go_roundw
        case rel => exact ⟨k + 1, by omega, by go_num, hb2, hw⟩
        case measure => simp [intOf]; omega
    · have hfin : Hid (mfind L name = -1) := idx_none (fun j hj => hb j (by omega))
      go_wp2_with fail
      go_ret
      refine ⟨⟨g, HG.out, ?_⟩, hw⟩
      unfold partPtr
      rw [hfin.out]; rfl
end Go.Proofs.YtjjggefmmeminabGreat
