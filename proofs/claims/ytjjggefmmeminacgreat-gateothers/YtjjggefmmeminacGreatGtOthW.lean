import Derived.Test.YtjjggefmmeminacGreatGtAlive
import Derived.Test.YtjjggefmmeminacGreatGtOthP
import Derived.Test.YtjjggefmmeminacGreatJGq
import Derived.Test.YtjjggefmmeminacGreatRgSame
import Derived.Test.YtjjggefmmeminacGreatRqSame
import Derived.Test.YtjjggefmmeminacGreatMgServRow
/-
  The walk of stitchlaw7.GateOthers, of a gate.Run that keeps its promise: it answers true.
-/
namespace Go.Proofs.YtjjggefmmeminacGreat
open Go.RowKit Go.Sort Go.PlainAid

theorem oth_reqs {n : Nat} {V : Nat → LServ} {d : Nat} {type key : ByteArray} {ps : List (Pick d)} (h : meanE n V d type key ps = 0) : n ≤ 5 ∧ ∀ r, r ∈ reqs n V d type key ps → ∃ c : Nat, r.svc = (c : Int) ∧ c < n := by
  have hr : reqs n V d type key ps = asks V (allP (ntS V) (seenA V) n) d (pOf (allP (ntS V) (seenA V) n) type) [key] ps := by unfold reqs; rw [if_pos h]
  obtain ⟨h0, hc, -⟩ := meanE_zero.1 h
  obtain ⟨-, hpi, hcR⟩ := cA_wA hc
  refine ⟨(wrongF_ok (allF_wrong h0)).1, fun r hm => ?_⟩
  obtain ⟨c, t, e1, hc, -⟩ := (asks_right h0 d type [key] ps [] hpi (by simp) (by simp) hcR r (by rw [← hr]; exact hm)).ex
  exact ⟨c, e1, hc⟩
theorem oth_end {n : Nat} {V : Nat → LServ} {d : Nat} {type key : ByteArray} {ps : List (Pick d)} (h : meanE n V d type key ps = 0) :
    meanE n (othV V (fun i => askedK (reqs n V d type key ps) (reqs n V d type key ps).length (i : Int))) d type key ps = 0 ∧ meanG n (othV V (fun i => askedK (reqs n V d type key ps) (reqs n V d type key ps).length (i : Int))) d type key ps = meanG n V d type key ps ∧ reqs n (othV V (fun i => askedK (reqs n V d type key ps) (reqs n V d type key ps).length (i : Int))) d type key ps = reqs n V d type key ps :=
  oth_plain h _ fun r hr => by
    obtain ⟨c, e, -⟩ := (oth_reqs h).2 r hr
    have h1 : ((r.svc.toNat : Nat) : Int) = r.svc := by rw [e]; omega
    show askedK _ _ ((r.svc.toNat : Nat) : Int) = true
    rw [h1]
    exact askedK_all hr
theorem noX_ok {w : World} {s : LServ} (h : ServOk w s) : ServOk w (noX s) := ⟨h.types, h.changes, ⟨Nat.zero_le _, fun _ hi => absurd hi (Nat.not_lt_zero _)⟩, h.tcap, Nat.le_refl _⟩
theorem othV_ok {w : World} {V : Nat → LServ} {i : Nat} (h : ServOk w (V i)) (p : Nat → Bool) : ServOk w (othV V p i) := by
  unfold othV
  split
  · exact h
  · exact noX_ok h

set_option maxRecDepth 100000 in
set_option maxHeartbeats 40000000 in
theorem gateOthers_any (hRun : RunOk 10) (a : Option Addr) (n cap : Nat) (V : Nat → LServ) (d : Nat) (type key : ByteArray) (pa : Option Addr) (pcap : Nat) (ps : List (Pick d)) (w : World) (hS : ServsAt w a n V) (hP : PicksAt w d pa ps) (hcap : ps.length ≤ pcap) (hs0 : Small type) (hs1 : Small key) :
    Calls Tryz.prog 3 #[.slice a n cap, .agg #[.string type, .string key, .slice pa ps.length pcap]] w fun e w' => e = .returned (.bool true) ∧ Below w.heap.size w w' := by
  have hmm := @run_makeMap Tryz.prog
  obtain ⟨i0, hi0, hz0, hz1, hz2⟩ : ∃ i, Tryz.prog.info? 40 = some i ∧ i.zero = some (.agg #[.slice none 0 0, .slice none 0 0, .slice none 0 0]) ∧ i.size = 3 ∧ i.bytes = 72 := by
    have h := Tryz.info40
    cases hi : Tryz.prog.info? 40 with
    | none => rw [hi] at h; cases h
    | some i => rw [hi] at h; simp at h; exact ⟨i, rfl, h.1, h.2.1, h.2.2⟩
  have HS := Hid.intro hS
  have HP := Hid.intro hP
  generalize hW : w.alloc (Obj.cells #[.string type, .string key, .slice pa ps.length pcap] 25) = W
  have hBW : Below w.heap.size w W := by rw [← hW]; exact below1 _ _
  have a0 : W.cell? ⟨w.heap.size, 0, none⟩ = some (.string type) := by rw [← hW, World.cell?_alloc_at _ _ _ _ rfl]; rfl
  have a1 : W.cell? ⟨w.heap.size, 1, none⟩ = some (.string key) := by rw [← hW, World.cell?_alloc_at _ _ _ _ rfl]; rfl
  have a2 : W.cell? ⟨w.heap.size, 2, none⟩ = some (.slice pa ps.length pcap) := by rw [← hW, World.cell?_alloc_at _ _ _ _ rfl]; rfl
  have hcl := alive7_any hRun W
  have HBW := Hid.intro hBW
  have HRun := Hid.intro hRun
  clear hS hP hBW hRun
  go_enter Tryz.func3, Tryz.ntmps3
  go_wp2_with fail
  clear hW
  refine hcl.mono ?_
  clear hcl
  rintro e w1 ⟨rfl, hw1⟩
  have HB1 := Hid.intro (HBW.out.trans (hw1.mono HBW.out.size))
  have a0 := keptCell hw1 a0
  have a1 := keptCell hw1 a1
  have a2 := keptCell hw1 a2
  have hcl := HRun.out a n cap V d type key pa pcap ps w1 (HS.out.kept HB1.out) (HP.out.kept HB1.out) hcap hs0 hs1
  clear hw1 HBW
  have HF : Hid (meanE n V d type key ps = 0 → n ≤ 5 ∧ ∀ r, r ∈ reqs n V d type key ps → ∃ c : Nat, r.svc = (c : Int) ∧ c < n) := Hid.intro oth_reqs
  have HEND : Hid (meanE n V d type key ps = 0 → ∀ (la : Option Addr) (lc : Nat) (w5 : World), ServsAt w5 la n (othV V (fun i => askedK (reqs n V d type key ps) (reqs n V d type key ps).length (i : Int))) → PicksAt w5 d pa ps →
      Calls Tryz.prog 10 #[.slice la n lc, .agg #[.string type, .string key, .slice pa ps.length pcap]] w5 fun e w' => RunEnd d (meanG n V d type key ps) (reqs n V d type key ps) 0 e w' ∧ Below w5.heap.size w5 w') := Hid.intro fun h la lc w5 h5 hp5 => by
    obtain ⟨g1, g2, g3⟩ := oth_end h
    have := HRun.out la n lc _ d type key pa pcap ps w5 h5 hp5 hcap hs0 hs1
    rw [g1, g2, g3] at this
    exact this
  clear HRun
  generalize meanG n V d type key ps = M at *
  generalize meanE n V d type key ps = x at *
  generalize reqs n V d type key ps = R at *
  go_wp2_with fail
  refine hcl.mono ?_
  clear hcl
  rintro e w2 ⟨⟨va, vc, qa, qc, rfl, -, -, hG, hR⟩, hw2⟩
  have HB2 := Hid.intro (HB1.out.trans (hw2.mono HB1.out.size))
  have HR := Hid.intro hR
  have HG := Hid.intro hG
  have hRl : R.length ≤ 9223372036854775807 := hR.1
  have a0 := keptCell hw2 a0
  have a1 := keptCell hw2 a1
  have a2 := keptCell hw2 a2
  clear hw2 HB1 hR hG
  by_cases h0 : x = 0
  case neg =>
    have hb : (x != 0) = true := by simpa using h0
    clear HF h0 HR HS HEND
    go_wp2_with fail
    go_ret
    exact ⟨rfl, HB2.out⟩
  have hb : (x != 0) = false := by simpa using h0
  obtain ⟨hn5, hall⟩ := HF.out h0
  have HALL := Hid.intro hall
  have HEN2 := Hid.intro (HEND.out h0)
  clear HEND
  subst h0
  clear HF hall
  go_wp2_with fail
  clear hb
  generalize hU : w2.alloc (.map #[] 0) = U
  have HIM : Hid (IMap U w2.heap.size 0 (askedK R 0)) := Hid.intro (by rw [← hU]; exact IMap.made w2)
  have HU : Hid (Below w2.heap.size w2 U) := Hid.intro (by rw [← hU]; exact below1 _ _)
  clear hU
  go_loopw [30] (fun i wr => ∃ k : Nat, k ≤ R.length ∧ i = .int .i64 k ∧ IMap wr w2.heap.size k (askedK R k) ∧ Below w2.heap.size w2 wr) (fun i _ => R.length - (intOf i).toNat)
  case atStart => exact ⟨0, Nat.zero_le _, rfl, HIM.out, HU.out⟩
  case round =>
    obtain ⟨k, hk, rfl, hI, hw⟩ := hrel
    by_cases hlt : k < R.length
    · obtain ⟨b, o, A, C, A2, C2, rfl, c0, c1, c2, c3, -, -, -, -⟩ := (HR.out.kept hw).2 k hlt
      obtain ⟨c, e1, hc⟩ := HALL.out (reqN R k) (by rw [reqN_get hlt]; exact List.getElem_mem hlt)
      have hlt' : (k : Int) < (R.length : Int) := by omega
      have hk0 : (0 : Int) ≤ (k : Int) := by omega
      generalize hX : wr.alloc (Obj.cells #[.int .i64 (reqN R k).svc, .string (reqN R k).type, .slice A (reqN R k).keys.length C, .slice A2 (reqN R k).fields.length C2] 35) = X
      have hBX : Below wr.heap.size wr X := by rw [← hX]; exact below1 _ _
      have x0 : X.cell? ⟨wr.heap.size, 0, none⟩ = some (.int .i64 (reqN R k).svc) := by rw [← hX, World.cell?_alloc_at _ _ _ _ rfl]; rfl
      obtain ⟨w3, hst, hI3, hT3⟩ := (hI.kept hBX).store (Nat.lt_of_lt_of_le hlt hRl) (s := (reqN R k).svc) (by rw [e1]; exact small_wf (by omega))
      have HI3 : Hid (IMap w3 w2.heap.size (k + 1) (askedK R (k + 1))) := Hid.intro (by
        have e : askedK R (k + 1) = fun u => if u = (reqN R k).svc then true else askedK R k u := funext fun s => askedK_succ hlt s
        rw [e]; exact hI3)
      have HW3 : Hid (Below w2.heap.size w2 w3) := Hid.intro ((hw.trans (hBX.mono hw.size)).grown hT3.grown (Nat.le_trans hw.size hBX.size) (fun k hk => by cases hk; exact Nat.le_refl _))
      clear hI hI3 hT3 hw hBX e1
      go_wp2_with fail
      clear hX hst x0 c0 c1 c2 c3
      go_roundw
      case rel => exact ⟨k + 1, by omega, by go_num, HI3.out, HW3.out⟩
      case measure => simp [intOf]; omega
    · have hkn : k = R.length := by omega
      subst hkn
      obtain ⟨w4, hren⟩ : ∃ w4, w4 = wr := ⟨_, rfl⟩
      subst hren
      have HIM := Hid.intro hI
      have hB4 : Below w2.heap.size w2 w4 := hw
      have HB4 : Hid (Below w.heap.size w w4) := Hid.intro (HB2.out.trans (hB4.mono HB2.out.size))
      have HS4 := Hid.intro (HS.out.kept HB4.out)
      have HP4 := Hid.intro (HP.out.kept HB4.out)
      have HG4 := Hid.intro (HG.out.kept hB4)
      have HR4 := Hid.intro (HR.out.kept hB4)
      have a0 := keptCell hB4 a0
      have a1 := keptCell hB4 a1
      have a2 := keptCell hB4 a2
      clear hI hw hB4 HS HP HG HR HB2 HU
      generalize w2.heap.size = bm at *
      generalize hpp : (fun i : Nat => askedK R R.length (i : Int)) = pp at *
      have HPP : Hid (∀ i : Nat, askedK R R.length (i : Int) = pp i) := Hid.intro fun i => by rw [← hpp]
      clear hpp
      go_wp2_with fail
      go_loopw [11, 40] (fun v i wr => ∃ m : Nat, m ≤ n ∧ i = .int .i64 (m : Int) ∧ Row wr w4.heap.size 40 3 v m (servCell (othV V pp)) ∧ Below w4.heap.size w4 wr) (fun _ i _ => n - (intOf i).toNat)
      case atStart => exact ⟨0, Nat.zero_le _, rfl, World.ownsRow_nil _ _ _ _, Below.refl _ _⟩
      case round =>
        obtain ⟨m, hm, rfl, hRw, hw⟩ := hrel
        by_cases hlt : m < n
        · obtain ⟨b, o, rfl, hs⟩ := (HS4.out.kept hw).2 m hlt
          have c0 := hs.c0
          have c1 := hs.c1
          have c2 := hs.c2
          have h1 : (m : Int) < (n : Int) := by omega
          have h2 : (0 : Int) ≤ (m : Int) := by omega
          obtain ⟨va', vc', hv, -⟩ := hRw.slice
          subst hv
          have HRw := Hid.intro hRw
          have hz : w4.heap.size ≤ wr.heap.size := hw.size
          generalize hX : wr.alloc (Obj.cells #[.slice (V m).ta (V m).nt (V m).tcap, .slice (V m).ca (V m).nc (V m).ccap, .slice (V m).xa (V m).nx (V m).xcap] 40) = X
          have hBX : Below wr.heap.size wr X := by rw [← hX]; exact below1 _ _
          have hbx : X.heap[wr.heap.size]? = some (.cells #[.slice (V m).ta (V m).nt (V m).tcap, .slice (V m).ca (V m).nc (V m).ccap, .slice (V m).xa (V m).nx (V m).xcap] 40 (0, 0)) := by rw [← hX]; exact heap_alloc_new _ _
          obtain ⟨x0, x1, x2⟩ : X.cell? ⟨wr.heap.size, 0, none⟩ = some (.slice (V m).ta (V m).nt (V m).tcap) ∧ X.cell? ⟨wr.heap.size, 1, none⟩ = some (.slice (V m).ca (V m).nc (V m).ccap) ∧ X.cell? ⟨wr.heap.size, 2, none⟩ = some (.slice (V m).xa (V m).nx (V m).xcap) := by simp [World.cell?, hbx]
          have zx : X.frozen? ⟨wr.heap.size, 2, none⟩ = false := by rw [← hX]; exact World.frozen?_alloc_at _ _ _ _ rfl
          have hlk := ((HIM.out.kept hw).kept hBX).look (s := (m : Int)) (small_wf (by omega))
          rw [HPP.out m] at hlk
          have HBX : Hid (Below w4.heap.size w4 X) := Hid.intro (hw.trans (hBX.mono hw.size))
          have HSZ : Hid (X.heap.size = wr.heap.size + 1) := Hid.intro (by rw [← hX]; simp)
          clear hRw hw hs hbx
          cases hp : pp m with
          | true =>
            rw [hp] at hlk
            have hV : othV V pp m = V m := by unfold othV; rw [if_pos hp]
            have HNX : Hid ((List.range ((m + 1) * 3)).map (servCell (othV V pp)) = (List.range (m * 3)).map (servCell (othV V pp)) ++ [.slice (V m).ta (V m).nt (V m).tcap, .slice (V m).ca (V m).nc (V m).ccap, .slice (V m).xa (V m).nx (V m).xcap]) := Hid.intro (by rw [servCells_snoc, hV])
            have HRX := Hid.intro (HRw.out.kept hBX)
            clear hV hBX HRw hp
            go_wp2_with (at_builtin; refine wpList_append_any _ rfl _ _ 22 rfl w4.heap.size 40 i0 _ 3 72 Tryz.underlying22 hi0 hz0 hz1 hz2 rfl (by decide) _ m _ rfl (HRX.out.kept (below1 X (Obj.cells #[.slice (V m).ta (V m).nt (V m).tcap, .slice (V m).ca (V m).nc (V m).ccap, .slice (V m).xa (V m).nx (V m).xcap] 40))) (some ⟨X.heap.size, 0, none⟩) 1 1 [.slice (V m).ta (V m).nt (V m).tcap, .slice (V m).ca (V m).nc (V m).ccap, .slice (V m).xa (V m).nx (V m).xcap] rfl rfl (alloc_news X #[.slice (V m).ta (V m).nt (V m).tcap, .slice (V m).ca (V m).nc (V m).ccap, .slice (V m).xa (V m).nx (V m).xcap] _) (fun h => by cases h) (by intro u hu; simp at hu; rcases hu with rfl | rfl | rfl <;> rfl) (by unfold maxLen; omega) (by omega) (by have := HSZ.out; simp; omega) ?_)
            intro v' w' hown hg _
            have HR2 : Hid (Row w' w4.heap.size 40 3 v' (m + 1) (servCell (othV V pp))) := Hid.intro (by
              unfold Row; rw [HNX.out]; exact hown)
            have HW2 : Hid (Below w4.heap.size w4 w') := Hid.intro ((HBX.out.trans ((below1 X _).mono (by have := HSZ.out; omega))).grown hg (by have := HSZ.out; simp; omega) (fun k hk => (HRX.out.lt hk).1))
            clear hown hg c0 c1 c2 x0 x1 x2 hX zx hlk
            go_wp2_with fail
            go_roundw
            case rel => exact ⟨m + 1, by omega, by go_num, HR2.out, HW2.out⟩
            case measure => simp [intOf]; omega
          | false =>
            rw [hp] at hlk
            have hV : othV V pp m = noX (V m) := by unfold othV; rw [if_neg (by rw [hp]; decide)]
            have HNX : Hid ((List.range ((m + 1) * 3)).map (servCell (othV V pp)) = (List.range (m * 3)).map (servCell (othV V pp)) ++ [.slice (V m).ta (V m).nt (V m).tcap, .slice (V m).ca (V m).nc (V m).ccap, .slice none 0 0]) := Hid.intro (by rw [servCells_snoc, hV]; rfl)
            generalize hZ : X.setCell ⟨wr.heap.size, 2, none⟩ (.slice none 0 0) = Z
            have z0 : Z.cell? ⟨wr.heap.size, 0, none⟩ = some (.slice (V m).ta (V m).nt (V m).tcap) := by rw [← hZ, World.cell?_setCell_other _ _ _ _ (by simp)]; exact x0
            have z1 : Z.cell? ⟨wr.heap.size, 1, none⟩ = some (.slice (V m).ca (V m).nc (V m).ccap) := by rw [← hZ, World.cell?_setCell_other _ _ _ _ (by simp)]; exact x1
            have z2 : Z.cell? ⟨wr.heap.size, 2, none⟩ = some (.slice none 0 0) := by rw [← hZ]; exact World.cell?_setCell_same _ _ _ x2
            have hrZ : Below wr.heap.size wr Z := by rw [← hZ]; exact hBX.setCell (Nat.le_refl _) _
            have HRX := Hid.intro (HRw.out.kept hrZ)
            have HBZ : Hid (Below w4.heap.size w4 Z) := Hid.intro (by rw [← hZ]; exact HBX.out.setCell hz _)
            have HSZ2 : Hid (Z.heap.size = wr.heap.size + 1) := Hid.intro (by rw [← hZ]; simp [HSZ.out])
            clear hV hBX HRw hp hrZ HBX
            go_wp2_with (at_builtin; refine wpList_append_any _ rfl _ _ 22 rfl w4.heap.size 40 i0 _ 3 72 Tryz.underlying22 hi0 hz0 hz1 hz2 rfl (by decide) _ m _ rfl (HRX.out.kept (below1 Z (Obj.cells #[.slice (V m).ta (V m).nt (V m).tcap, .slice (V m).ca (V m).nc (V m).ccap, .slice none 0 0] 40))) (some ⟨Z.heap.size, 0, none⟩) 1 1 [.slice (V m).ta (V m).nt (V m).tcap, .slice (V m).ca (V m).nc (V m).ccap, .slice none 0 0] rfl rfl (alloc_news Z #[.slice (V m).ta (V m).nt (V m).tcap, .slice (V m).ca (V m).nc (V m).ccap, .slice none 0 0] _) (fun h => by cases h) (by intro u hu; simp at hu; rcases hu with rfl | rfl | rfl <;> rfl) (by unfold maxLen; omega) (by omega) (by have := HSZ2.out; simp; omega) ?_)
            intro v' w' hown hg _
            have HR2 : Hid (Row w' w4.heap.size 40 3 v' (m + 1) (servCell (othV V pp))) := Hid.intro (by
              unfold Row; rw [HNX.out]; exact hown)
            have HW2 : Hid (Below w4.heap.size w4 w') := Hid.intro ((HBZ.out.trans ((below1 Z _).mono (by have := HSZ2.out; omega))).grown hg (by have := HSZ2.out; simp; omega) (fun k hk => (HRX.out.lt hk).1))
            clear hown hg c0 c1 c2 x0 x1 x2 hX hZ z0 z1 z2 zx hlk
            go_wp2_with fail
            go_roundw
            case rel => exact ⟨m + 1, by omega, by go_num, HR2.out, HW2.out⟩
            case measure => simp [intOf]; omega
        · have hmn : n = m := by omega
          subst hmn
          obtain ⟨ba, bc, hbv, hBS⟩ := row_servs hRw HS4.out.1 (fun i hi => by
            obtain ⟨_, _, _, hs⟩ := (HS4.out.kept hw).2 i hi
            exact othV_ok hs.ok pp)
          subst hbv
          have hcl := HEN2.out ba bc wr hBS (HP4.out.kept hw)
          have a0 := keptCell hw a0
          have a1 := keptCell hw a1
          have a2 := keptCell hw a2
          have HG5 := Hid.intro (HG4.out.kept hw)
          have HR5 := Hid.intro (HR4.out.kept hw)
          have HB5 : Hid (Below w.heap.size w wr) := Hid.intro (HB4.out.trans (hw.mono HB4.out.size))
          clear hRw hw hBS HEN2 HS4 HP4 HG4 HR4 HB4
          go_wp2_with fail
          refine hcl.mono ?_
          clear hcl a0 a1 a2
          rintro e w6 ⟨⟨va6, vc6, qa6, qc6, rfl, -, -, hG6, hR6⟩, hw6⟩
          have hcl := sameGot_any d va va6 vc vc6 M w6 (HG5.out.kept hw6) hG6
          have HR6 := Hid.intro hR6
          have HR5 := Hid.intro (HR5.out.kept hw6)
          have HB6 := Hid.intro (HB5.out.trans (hw6.mono HB5.out.size))
          clear hG6 hR6 hw6 HG5 HB5
          go_wp2_with fail
          refine hcl.mono ?_
          clear hcl
          rintro e w7 ⟨rfl, hw7⟩
          have hcl := sameReqs_any qa qa6 qc qc6 R w7 (HR5.out.kept hw7) (HR6.out.kept hw7)
          have HB7 := Hid.intro (HB6.out.trans (hw7.mono HB6.out.size))
          clear hw7 HB6 HR5 HR6
          go_wp2_with fail
          refine hcl.mono ?_
          clear hcl
          rintro e w8 ⟨rfl, hw8⟩
          have HB8 := Hid.intro (HB7.out.trans (hw8.mono HB7.out.size))
          clear hw8 HB7
          go_wp2_with fail
          go_ret
          exact ⟨rfl, HB8.out⟩
end Go.Proofs.YtjjggefmmeminacGreat
