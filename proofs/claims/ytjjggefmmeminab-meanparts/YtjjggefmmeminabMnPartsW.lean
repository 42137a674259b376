import Derived.Test.YtjjggefmmeminabMnPartsR
import Derived.Test.YtjjggefmmeminabMnRows
import Derived.Test.YtjjggefmmeminabMnAlive
import Derived.Test.YtjjggefmmeminabRgSame
/-
  The walk of stitchlaw6.MeanParts: it answers true, and keeps what is there.
-/
namespace Go.Proofs.Ytjjggefmmeminab
open Go.RowKit Go.Sort Go.PlainAid

theorem meanG_len {n : Nat} {V : Nat → LServ} {d : Nat} {type key : ByteArray} {ps : List (Pick d)} (h : meanE n V d type key ps = 0) : (meanG n V d type key ps).length = ps.length ∧ ps.length ≤ 60 := by
  obtain ⟨-, h1, -⟩ := meanE_zero.1 h
  refine ⟨?_, (wA_sm (cA_wA h1).1).1.len⟩
  unfold meanG; rw [if_pos h, gots_len]

set_option maxRecDepth 100000 in
set_option maxHeartbeats 4000000 in
theorem meanParts_any (a : Option Addr) (n cap : Nat) (V : Nat → LServ) (d : Nat) (type key : ByteArray) (pa : Option Addr) (pcap : Nat) (ps : List (Pick d)) (z : Int) (w : World) (hS : ServsAt w a n V) (hP : PicksAt w d pa ps) (hcap : ps.length ≤ pcap) (hs0 : Small type) (hs1 : Small key) :
    Calls Try.prog 8 #[.slice a n cap, .agg #[.string type, .string key, .slice pa ps.length pcap], .int .i64 z] w fun e w' => e = .returned (.bool true) ∧ Below w.heap.size w w' := by
  obtain ⟨i0, hi0, hz0, hz1, hz2⟩ := info_parts' Try.info66
  have HS := Hid.intro hS
  have HP := Hid.intro hP
  generalize hW : w.alloc (Obj.cells #[.string type, .string key, .slice pa ps.length pcap] 24) = W
  have hBW : Below w.heap.size w W := by rw [← hW]; exact below1 _ _
  have a0 : W.cell? ⟨w.heap.size, 0, none⟩ = some (.string type) := by rw [← hW, World.cell?_alloc_at _ _ _ _ rfl]; rfl
  have a1 : W.cell? ⟨w.heap.size, 1, none⟩ = some (.string key) := by rw [← hW, World.cell?_alloc_at _ _ _ _ rfl]; rfl
  have a2 : W.cell? ⟨w.heap.size, 2, none⟩ = some (.slice pa ps.length pcap) := by rw [← hW, World.cell?_alloc_at _ _ _ _ rfl]; rfl
  have hcl := alive6_any W
  have HBW := Hid.intro hBW
  clear hS hP hBW
  go_enter Try.func8, Try.ntmps8
  go_wp2_with fail
  clear hW
  refine hcl.mono ?_
  clear hcl
  rintro e w1 ⟨rfl, hw1⟩
  have hB1 := HBW.out.trans (hw1.mono HBW.out.size)
  have HB1 := Hid.intro hB1
  have a0 := keptCell hw1 a0
  have a1 := keptCell hw1 a1
  have a2 := keptCell hw1 a2
  have hcl := mean_any a n cap V d type key pa pcap ps w1 (HS.out.kept hB1) (HP.out.kept hB1) hcap hs0 hs1
  have HNO : Hid (meanE n V d type key ps ≠ 0 → (meanG n V d type key ps).length = 0) := Hid.intro fun h => by unfold meanG; rw [if_neg h]; rfl
  have HPT : Hid (meanE n V d type key ps = 0 → ∀ k, 0 < k → k < ps.length → meanE n V d type key (ps.take k) = 0 ∧ meanE n V d type key (ps.drop k) = 0 ∧ meanG n V d type key ps = meanG n V d type key (ps.take k) ++ meanG n V d type key (ps.drop k) ∧ (meanG n V d type key (ps.take k)).length = k ∧ (meanG n V d type key (ps.drop k)).length = ps.length - k ∧ ps.length ≤ 60) := Hid.intro fun h k h1 h2 => by
    obtain ⟨q1, q2, q3⟩ := mean_parts h h1 h2
    refine ⟨q1, q2, q3, ?_, ?_, (meanG_len h).2⟩
    · rw [(meanG_len q1).1, List.length_take]; omega
    · rw [(meanG_len q2).1, List.length_drop]
  clear hw1 hB1 HBW
  obtain ⟨M, hM⟩ : ∃ M, M = meanG n V d type key ps := ⟨_, rfl⟩
  rw [← hM] at hcl HNO HPT
  clear hM
  generalize meanE n V d type key ps = x at *
  go_wp2_with fail
  refine hcl.mono ?_
  clear hcl
  rintro e w2 ⟨⟨va, vc, rfl, hc, ho⟩, hw2⟩
  have hB2 := HB1.out.trans (hw2.mono HB1.out.size)
  have HB2 := Hid.intro hB2
  have a0 := keptCell hw2 a0
  have a1 := keptCell hw2 a1
  have a2 := keptCell hw2 a2
  have HMA := Hid.intro ho.free.at
  clear ho hw2 HB1 hB2
  by_cases h0 : x = 0
  case neg =>
    have hb : (x != 0) = true := by simpa using h0
    have hb' : (x == 0) = false := by simpa using h0
    have hl0 := HNO.out h0
    rw [hl0]
    clear HNO HPT h0 hl0 HMA HS HP
    go_wp2_with fail
    go_ret
    exact ⟨rfl, HB2.out⟩
  subst h0
  by_cases hz1' : z < 1
  · clear HNO HPT HMA HS HP
    go_wp2_with fail
    go_ret
    exact ⟨rfl, HB2.out⟩
  by_cases hz2' : (ps.length : Int) ≤ z
  · have hge : z ≥ (ps.length : Int) := hz2'
    clear HNO HPT HMA HS HP
    go_wp2_with fail
    go_ret
    exact ⟨rfl, HB2.out⟩
  obtain ⟨k, hkz⟩ : ∃ k : Nat, z = (k : Int) := ⟨z.toNat, by omega⟩
  subst hkz
  have hkl : k < ps.length := by omega
  obtain ⟨e1, e2, eM, l1, l2, h60⟩ := HPT.out rfl k (by omega) hkl
  cases d with
  | zero => rw [nil0 ps] at hkl; simp at hkl
  | succ d =>
  obtain ⟨g, o, hpa⟩ : ∃ g o, pa = some ⟨g, o, none⟩ := by
    obtain ⟨g, o, A, C, e, -⟩ := HP.out.2 0 (by omega)
    exact ⟨g, o, e⟩
  subst hpa
  have HA0 := Hid.intro a0
  have HA1 := Hid.intro a1
  have HA2 := Hid.intro a2
  have HX : Hid (∀ w9, Below w.heap.size w w9 → Calls Try.prog 26 #[.slice a n cap, .agg #[.string type, .string key, .slice (some ⟨g, o, none⟩) k pcap]] w9 fun e w' => MeanEnd w9.heap.size (d + 1) (meanG n V (d + 1) type key (ps.take k)) 0 e w' ∧ Below w9.heap.size w9 w') := Hid.intro fun w9 h9 => by
    have := mean_any a n cap V (d + 1) type key (some ⟨g, o, none⟩) pcap (ps.take k) w9 (HS.out.kept h9) ((HP.out.kept h9).less k) (by rw [List.length_take]; omega) hs0 hs1
    rw [e1, show (ps.take k).length = k by rw [List.length_take]; omega] at this
    exact this
  have HY : Hid (∀ w9, Below w.heap.size w w9 → Calls Try.prog 26 #[.slice a n cap, .agg #[.string type, .string key, .slice (some ⟨g, o + k * 3, none⟩) (ps.length - k) (pcap - k)]] w9 fun e w' => MeanEnd w9.heap.size (d + 1) (meanG n V (d + 1) type key (ps.drop k)) 0 e w' ∧ Below w9.heap.size w9 w') := Hid.intro fun w9 h9 => by
    have := mean_any a n cap V (d + 1) type key (some ⟨g, o + k * 3, none⟩) (pcap - k) (ps.drop k) w9 (HS.out.kept h9) (picks_drop (HP.out.kept h9) k) (by rw [List.length_drop]; omega) hs0 hs1
    rw [e2, List.length_drop] at this
    exact this
  have HEM := Hid.intro eM
  have HL1 := Hid.intro l1
  have HL2 := Hid.intro l2
  generalize meanG n V (d + 1) type key (ps.take k) = P1 at *
  generalize meanG n V (d + 1) type key (ps.drop k) = P2 at *
  have hlM : M.length = ps.length := by rw [eM, List.length_append, l1, l2]; omega
  rw [hlM]
  have HLM := Hid.intro hlM
  have hz3 : ¬ ((ps.length : Int) ≤ (k : Int)) := by omega
  have hz4 : (k : Int) < (ps.length : Int) := by omega
  clear HNO HPT e1 e2 eM l1 l2 HP HS hlM hz2'
  go_upto_region 6 with fail
  clear a0 a1 a2
  refine partTwo (ba := w.heap.size) (g := g) (o := o) (n := ps.length) (cap := pcap) (by kernel_rfl) rfl HA0.out HA1.out HA2.out ?_
  intro s w3 bx bY hB3 hs9 hbx hx3 hs10 hby hy3 hne
  have HB3 := Hid.intro hB3
  have HX3 := Hid.intro hx3
  have HY3 := Hid.intro hy3
  have hba2 : w.heap.size < w2.heap.size := block_lt_of_cell HA0.out
  clear hB3 hx3 hy3
  simp only [putAll, Act.put, List.setIfInBounds_toArray, List.set_cons_succ, List.set_cons_zero, hs9, hs10]
  generalize s 42 = t42
  generalize s 43 = t43
  go_upto_region 7 with fail
  refine partCut (ba := w.heap.size) (bx := bx) (bY := bY) (g := g) (o := o) (n := ps.length) (cap := pcap) (k := k) (by kernel_rfl) rfl rfl rfl rfl hkl hcap hne (by omega) (by omega) (keptCell HB3.out HA2.out) HX3.out HY3.out ?_
  intro s w4 hK4 hx4 hy4
  have hB34 : Below w2.heap.size w3 w4 := ⟨hK4.os, hK4.tape, hK4.output, hK4.size, fun q hq => hK4.block q ⟨Nat.lt_of_lt_of_le hq HB3.out.size, by omega, by omega⟩⟩
  have hB24 : Below w2.heap.size w2 w4 := HB3.out.trans hB34
  have hB4 : Below w.heap.size w w4 := HB2.out.trans (hB24.mono HB2.out.size)
  have H24 := Hid.intro hB24
  have hsz4 : w.heap.size ≤ w4.heap.size := hB4.size
  have hsz24 : w2.heap.size ≤ w4.heap.size := hB24.size
  obtain ⟨x0, x1, x2⟩ : w4.cell? ⟨bx, 0, none⟩ = some (.string type) ∧ w4.cell? ⟨bx, 1, none⟩ = some (.string key) ∧ w4.cell? ⟨bx, 2, none⟩ = some (.slice (some ⟨g, o, none⟩) k pcap) := by simp [World.cell?, hx4]
  obtain ⟨y0, y1, y2⟩ : w4.cell? ⟨bY, 0, none⟩ = some (.string type) ∧ w4.cell? ⟨bY, 1, none⟩ = some (.string key) ∧ w4.cell? ⟨bY, 2, none⟩ = some (.slice (some ⟨g, o + k * 3, none⟩) (ps.length - k) (pcap - k)) := by simp [World.cell?, hy4]
  have hcl := HX.out w4 hB4
  have HB4 := Hid.intro hB4
  clear hK4 hx4 hy4 hB34 hB24 hB4 HB3 HX3 HY3 HX HA0 HA1 HA2 HB2
  simp only [putAll, Act.put, List.setIfInBounds_toArray, List.set_cons_succ, List.set_cons_zero]
  generalize s 44 = t44
  generalize s 45 = t45
  generalize s 46 = t46
  generalize s 47 = t47
  generalize s 48 = t48
  generalize s 49 = t49
  generalize s 50 = t50
  generalize s 51 = t51
  generalize s 52 = t52
  generalize s 53 = t53
  go_wp2_with fail
  refine hcl.mono ?_
  clear hcl
  rintro e w5 ⟨⟨v1, c1, rfl, hc1, ho1⟩, hw5⟩
  have y0 := keptCell hw5 y0
  have y1 := keptCell hw5 y1
  have y2 := keptCell hw5 y2
  have hB5 := HB4.out.trans (hw5.mono HB4.out.size)
  have HB5 := Hid.intro hB5
  have H25 := Hid.intro (H24.out.trans (hw5.mono hsz24))
  have HO1 := Hid.intro ho1
  have HZ45 := Hid.intro hw5.size
  have hcl := HY.out w5 hB5
  clear hw5 hB5 HB4 H24 ho1 HY x0 x1 x2
  go_wp2_with fail
  refine hcl.mono ?_
  clear hcl
  rintro e w6 ⟨⟨v2, c2, rfl, hc2, ho2⟩, hw6⟩
  have hB6 := HB5.out.trans (hw6.mono HB5.out.size)
  have HB6 := Hid.intro hB6
  have H26 := Hid.intro (H25.out.trans (hw6.mono (Nat.le_trans hsz24 HZ45.out)))
  obtain ⟨-, av1, sv1, hG1⟩ := HO1.out
  obtain ⟨-, av2, sv2, hG2⟩ := ho2
  have hG1' := hG1.kept hw6
  have HG1 := Hid.intro hG1'
  have HG2 := Hid.intro hG2
  have HROW := Hid.intro hG1'.row
  obtain ⟨hnil2, -, hnews2⟩ := hG2.news
  have HNIL := Hid.intro hnil2
  have HNEWS := Hid.intro hnews2
  have HONE := Hid.intro hG2.cellOne
  have HOB : Hid (∀ q, (Value.slice v1 P1.length c1).ownBlock = some q → q < w5.heap.size ∧ w4.heap.size ≤ q) := Hid.intro fun q hq => ⟨(hG1.row.lt hq).2, (hG1.row.lt hq).1⟩
  have hb46 : w4.heap.size ≤ w6.heap.size := Nat.le_trans HZ45.out hw6.size
  have HLn : Hid (P1.length + P2.length ≤ 60) := Hid.intro (by rw [HL1.out, HL2.out]; omega)
  have h6a : P1.length + P2.length ≤ 60 := HLn.out
  have HW46 : Hid (w4.heap.size ≤ w5.heap.size) := HZ45
  clear hw6 hB6 HB5 H25 HO1 hG1 hG2 hG1' hnil2 hnews2 y0 y1 y2
  go_wp2_with (at_builtin; refine wpList_append_met _ (by rfl) _ _ 57 rfl w4.heap.size 66 i0 _ 6 96 Try.underlying57 hi0 hz0 hz1 hz2 rfl (by decide) _ P1.length _ rfl HROW.out v2 P2.length c2 ((List.range (P2.length * 6)).map (gotCell P2 av2 sv2)) rfl (by simp) HNEWS.out HNIL.out HONE.out (by unfold maxLen; omega) (by omega) hb46 ?_)
  intro v' w7 hown hgr hvb
  obtain ⟨a', c', hv', hc', hF'⟩ := (HG1.out.join HG2.out HW46.out (fun q hq => (HOB.out q hq).1) hown hgr hvb).out (by rw [List.length_append]; unfold maxLen; omega)
  have hB27 : Below w2.heap.size w2 w7 := H26.out.grown hgr (Nat.le_trans hsz24 hb46) (fun q hq => Nat.le_trans hsz24 (HOB.out q hq).2)
  have hgM : GotsAt w7 (d + 1) va M := HMA.out.kept hB27
  have hgP : GotsAt w7 (d + 1) a' M := by rw [HEM.out]; exact hF'.at
  have hlP : (P1 ++ P2).length = ps.length := by rw [List.length_append, HL1.out, HL2.out]; omega
  rw [hlP] at hv'
  subst hv'
  have hcl := sameGot_any (d + 1) va a' vc c' M w7 hgM hgP
  rw [HLM.out] at hcl
  have HB7 : Hid (Below w.heap.size w w7) := Hid.intro (HB6.out.grown hgr (Nat.le_trans hsz4 hb46) (fun q hq => Nat.le_trans hsz4 (HOB.out q hq).2))
  clear hown hgr hvb hF' hgM hgP HG1 HG2 HROW HNIL HNEWS HONE HOB H26 HEM hB27 HMA
  go_wp2_with fail
  refine hcl.mono ?_
  clear hcl
  rintro e w8 ⟨rfl, hw8⟩
  have HB8 := Hid.intro (HB7.out.trans (hw8.mono HB7.out.size))
  clear hw8
  go_wp2_with fail
  go_ret
  exact ⟨rfl, HB8.out⟩
end Go.Proofs.Ytjjggefmmeminab
