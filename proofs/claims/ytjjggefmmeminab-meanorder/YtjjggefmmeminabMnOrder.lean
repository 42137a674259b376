import Derived.Test.YtjjggefmmeminabMnAlive
import Derived.Test.YtjjggefmmeminabRgSame
/-
  The walk of stitchlaw6.MeanOrder: it answers true, and keeps what is there.
-/
namespace Go.Proofs.Ytjjggefmmeminab
open Go.RowKit Go.Sort Go.PlainAid

set_option maxRecDepth 100000 in
set_option maxHeartbeats 4000000 in
theorem meanOrder_any (a : Option Addr) (n cap : Nat) (V : Nat → LServ) (d : Nat) (type key : ByteArray) (pa : Option Addr) (pcap : Nat) (ps : List (Pick d)) (w : World) (hS : ServsAt w a n V) (hP : PicksAt w d pa ps) (hcap : ps.length ≤ pcap) (hs0 : Small type) (hs1 : Small key) (hby : n * 72 ≤ 140737488355328) :
    Calls Try.prog 11 #[.slice a n cap, .agg #[.string type, .string key, .slice pa ps.length pcap]] w fun e w' => e = .returned (.bool true) ∧ Below w.heap.size w w' := by
  obtain ⟨i0, hi0, hz0, hz1, hz2⟩ := info_parts' Try.info74
  have hn : n ≤ 9223372036854775807 := hS.1
  have HS := Hid.intro hS
  have HP := Hid.intro hP
  generalize hW : w.alloc (Obj.cells #[.string type, .string key, .slice pa ps.length pcap] 24) = W
  have hBW : Below w.heap.size w W := by rw [← hW]; exact below1 _ _
  have a0 : W.cell? ⟨w.heap.size, 0, none⟩ = some (.string type) := by rw [← hW, World.cell?_alloc_at _ _ _ _ rfl]; rfl
  have a1 : W.cell? ⟨w.heap.size, 1, none⟩ = some (.string key) := by rw [← hW, World.cell?_alloc_at _ _ _ _ rfl]; rfl
  have a2 : W.cell? ⟨w.heap.size, 2, none⟩ = some (.slice pa ps.length pcap) := by rw [← hW, World.cell?_alloc_at _ _ _ _ rfl]; rfl
  have hcl := alive6_any W
  have HBW := Hid.intro hBW
  clear hS hP hBW
  go_enter Try.func11, Try.ntmps11
  go_wp2_with fail
  clear hW
  refine hcl.mono ?_
  clear hcl
  rintro e w1 ⟨rfl, hw1⟩
  have HB1 := Hid.intro (HBW.out.trans (hw1.mono HBW.out.size))
  have HA0 := Hid.intro (keptCell hw1 a0)
  have HA1 := Hid.intro (keptCell hw1 a1)
  have HA2 := Hid.intro (keptCell hw1 a2)
  have HS1 := Hid.intro (HS.out.kept HB1.out)
  have HP1 := Hid.intro (HP.out.kept HB1.out)
  clear hw1 a0 a1 a2 HBW HS HP
  go_wp2_with fail
  go_loopw [5, 6] (fun v i wr => ∃ m : Nat, m ≤ n ∧ i = .int .i64 ((n : Int) - 1 - (m : Int)) ∧ Row wr w1.heap.size 74 3 v m (servCell (revV n V)) ∧ Below w1.heap.size w1 wr) (fun _ i _ => (intOf i + 1).toNat)
  case atStart => exact ⟨0, Nat.zero_le _, by go_num, World.ownsRow_nil _ _ _ _, Below.refl _ _⟩
  case round =>
    obtain ⟨m, hm, rfl, hR, hw⟩ := hrel
    by_cases hlt : m < n
    · obtain ⟨b, o, rfl, hs⟩ := (HS1.out.kept hw).2 (n - 1 - m) (by omega)
      have c0 := hs.c0
      have c1 := hs.c1
      have c2 := hs.c2
      have hei : (n : Int) - 1 - (m : Int) = ((n - 1 - m : Nat) : Int) := by omega
      rw [hei]
      have h1 : ((n - 1 - m : Nat) : Int) < (n : Int) := by omega
      have h2 : (0 : Int) ≤ ((n - 1 - m : Nat) : Int) := by omega
      obtain ⟨va, vc, hv, -⟩ := hR.slice
      subst hv
      have HR := Hid.intro hR
      have HW := Hid.intro hw
      have HNX : Hid ((List.range ((m + 1) * 3)).map (servCell (revV n V)) = (List.range (m * 3)).map (servCell (revV n V)) ++ [.slice (V (n - 1 - m)).ta (V (n - 1 - m)).nt (V (n - 1 - m)).tcap, .slice (V (n - 1 - m)).ca (V (n - 1 - m)).nc (V (n - 1 - m)).ccap, .slice (V (n - 1 - m)).xa (V (n - 1 - m)).nx (V (n - 1 - m)).xcap]) := servCells_snoc (revV n V) m
      have hz : w1.heap.size ≤ wr.heap.size := hw.size
      have hed : ((n - 1 - m : Nat) : Int) - 1 = (n : Int) - 1 - ((m + 1 : Nat) : Int) := by omega
      have HED := Hid.intro hed
      clear hR hw hs hei hed
      generalize hq : n - 1 - m = q at *
      go_wp2_with (at_builtin; refine wpList_append_any _ rfl _ _ 39 rfl w1.heap.size 74 i0 _ 3 72 Try.underlying39 hi0 hz0 hz1 hz2 rfl (by decide) _ m _ rfl (HR.out.kept (below1 wr (Obj.cells #[.slice (V q).ta (V q).nt (V q).tcap, .slice (V q).ca (V q).nc (V q).ccap, .slice (V q).xa (V q).nx (V q).xcap] 74))) (some ⟨wr.heap.size, 0, none⟩) 1 1 [.slice (V q).ta (V q).nt (V q).tcap, .slice (V q).ca (V q).nc (V q).ccap, .slice (V q).xa (V q).nx (V q).xcap] rfl rfl (alloc_news wr #[.slice (V q).ta (V q).nt (V q).tcap, .slice (V q).ca (V q).nc (V q).ccap, .slice (V q).xa (V q).nx (V q).xcap] _) (fun h => by cases h) (by intro u hu; simp at hu; rcases hu with rfl | rfl | rfl <;> rfl) (by unfold maxLen; omega) (by omega) (by simp; omega) ?_)
      intro v' w' hown hg _
      have HR2 : Hid (Row w' w1.heap.size 74 3 v' (m + 1) (servCell (revV n V))) := by
        unfold Row; rw [HNX.out]; exact hown
      have HW2 : Hid (Below w1.heap.size w1 w') := (HW.out.trans ((below1 wr _).mono hz)).grown hg (by simp; omega) (fun k hk => (HR.out.lt hk).1)
      clear hown hg c0 c1 c2
      go_wp2_with fail
      go_roundw
      case rel => exact ⟨m + 1, by omega, by rw [← HED.out], HR2.out, HW2.out⟩
      case measure => simp [intOf]
    · have hmn : n = m := by omega
      subst hmn
      obtain ⟨ba, bc, hbv, hBS⟩ := row_servs hR hn (fun i hi => by
        obtain ⟨_, _, _, hs⟩ := (HS1.out.kept hw).2 (n - 1 - i) (by omega)
        exact hs.ok)
      subst hbv
      have hSw := HS1.out.kept hw
      have hcl := mall_any a n cap V wr hSw
      have HSw := Hid.intro hSw
      have HBS := Hid.intro hBS
      have HPw := Hid.intro (HP1.out.kept hw)
      have a0 := keptCell hw HA0.out
      have a1 := keptCell hw HA1.out
      have a2 := keptCell hw HA2.out
      have HWw := Hid.intro (HB1.out.trans (hw.mono HB1.out.size))
      have hneg : ¬ ((n : Int) - 1 - (n : Int) ≥ 0) := by omega
      clear hw hR hSw hBS HS1 HP1 HB1 HA0 HA1 HA2
      go_wp2_with fail
      refine hcl.mono ?_
      clear hcl
      rintro e w2 ⟨⟨va, vn, vc, rfl, -, -⟩, hw2⟩
      have a0 := keptCell hw2 a0
      have a1 := keptCell hw2 a1
      have a2 := keptCell hw2 a2
      have HMR : Hid ((allF n V).1 = 0 → meanE n (revV n V) d type key ps = meanE n V d type key ps ∧ meanG n (revV n V) d type key ps = meanG n V d type key ps) := Hid.intro fun h => mean_rev h d type key ps
      generalize allF n V = fl at *
      unfold faultV
      generalize hX : w2.alloc (Obj.cells #[.int .i64 fl.1, .int .i64 fl.2] 30) = X
      have hBX : Below w2.heap.size w2 X := by rw [← hX]; exact below1 _ _
      have f0 : X.cell? ⟨w2.heap.size, 0, none⟩ = some (.int .i64 fl.1) := by rw [← hX, World.cell?_alloc_at _ _ _ _ rfl]; rfl
      have hwX : Below wr.heap.size wr X := hw2.trans (hBX.mono hw2.size)
      have a0 := keptCell hBX a0
      have a1 := keptCell hBX a1
      have a2 := keptCell hBX a2
      have HX := Hid.intro (HWw.out.trans (hwX.mono HWw.out.size))
      have HSX := Hid.intro (HSw.out.kept hwX)
      have HBX := Hid.intro (HBS.out.kept hwX)
      have HPX := Hid.intro (HPw.out.kept hwX)
      clear hw2 hBX hwX HSw HBS HPw HWw
      by_cases h0 : fl.1 = 0
      case neg =>
        have hb : (fl.1 != 0) = true := by simpa using h0
        clear h0 HMR
        go_wp2_with fail
        go_ret
        exact ⟨rfl, HX.out⟩
      have hb : (fl.1 != 0) = false := by simpa using h0
      obtain ⟨eE, eG⟩ := HMR.out h0
      have hcl := mean_any a n cap V d type key pa pcap ps X HSX.out HPX.out hcap hs0 hs1
      have HC2 : Hid (∀ w3, Below X.heap.size X w3 → Calls Try.prog 26 #[.slice ba n bc, .agg #[.string type, .string key, .slice pa ps.length pcap]] w3 fun e w' => MeanEnd w3.heap.size d (meanG n V d type key ps) (meanE n V d type key ps) e w' ∧ Below w3.heap.size w3 w') := Hid.intro fun w3 h3 => by
        have := mean_any ba n bc (revV n V) d type key pa pcap ps w3 (HBX.out.kept h3) (HPX.out.kept h3) hcap hs0 hs1
        rw [eE, eG] at this
        exact this
      clear h0 HMR eE eG HSX HBX HPX
      generalize meanG n V d type key ps = M at *
      generalize meanE n V d type key ps = x at *
      go_wp2_with fail
      clear hX
      refine hcl.mono ?_
      clear hcl
      rintro e w3 ⟨⟨va3, vc3, rfl, hc3, ho3⟩, hw3⟩
      have a0 := keptCell hw3 a0
      have a1 := keptCell hw3 a1
      have a2 := keptCell hw3 a2
      have hcl := HC2.out w3 hw3
      have HO3 := Hid.intro ho3.free.at
      have HB3 := Hid.intro (HX.out.trans (hw3.mono HX.out.size))
      clear hw3 HC2 ho3 HX
      go_wp2_with fail
      refine hcl.mono ?_
      clear hcl
      rintro e w4 ⟨⟨va4, vc4, rfl, hc4, ho4⟩, hw4⟩
      have hcl := sameGot_any d va3 va4 vc3 vc4 M w4 (HO3.out.kept hw4) ho4.free.at
      have HB4 := Hid.intro (HB3.out.trans (hw4.mono HB3.out.size))
      clear hw4 ho4 HO3 HB3
      go_wp2_with fail
      refine hcl.mono ?_
      clear hcl
      rintro e w5 ⟨rfl, hw5⟩
      have HB5 := Hid.intro (HB4.out.trans (hw5.mono HB4.out.size))
      clear hw5 HB4
      go_wp2_with fail
      go_ret
      exact ⟨rfl, HB5.out⟩
end Go.Proofs.Ytjjggefmmeminab
