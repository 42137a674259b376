import Derived.Test.YtjjggefmmeminabMnPartsW
/-
  The walk of stitchlaw6.MeanNames: it answers true, and keeps what is there.
-/
namespace Go.Proofs.Ytjjggefmmeminab
open Go.RowKit Go.Sort Go.PlainAid

theorem Try.infoPick : (Try.prog.info? 63).map (fun i => (i.zero, i.size, i.bytes)) = some (some (.agg #[.string ⟨#[]⟩, .string ⟨#[]⟩, .slice none 0 0]), 3, 56) := by kernel_rfl
theorem owns_none {w : World} {base e size g : Nat} (h : w.heap[g]? = some (.cells #[] e (0, 0))) (hb : base ≤ g) : w.ownsRow base e size (.slice (some ⟨g, 0, none⟩) 0 0) 0 [] :=
  ⟨by simp, .inr ⟨g, 0, #[], rfl, hb, h, Nat.le_refl _, Nat.zero_le _, by simp, by simp⟩⟩

set_option maxRecDepth 100000 in
set_option maxHeartbeats 4000000 in
theorem meanNames_any (a : Option Addr) (n cap : Nat) (V : Nat → LServ) (d : Nat) (type key : ByteArray) (pa : Option Addr) (pcap : Nat) (ps : List (Pick d)) (z : Int) (st : ByteArray) (w : World) (hS : ServsAt w a n V) (hP : PicksAt w d pa ps) (hcap : ps.length ≤ pcap) (hs0 : Small type) (hs1 : Small key) (hst : Small st) :
    Calls Try.prog 9 #[.slice a n cap, .agg #[.string type, .string key, .slice pa ps.length pcap], .int .i64 z, .string st] w fun e w' => e = .returned (.bool true) ∧ Below w.heap.size w w' := by
  obtain ⟨i0, hi0, hz0, hz1, hz2⟩ := info_parts' Try.infoPick
  have HS := Hid.intro hS
  have HP := Hid.intro hP
  generalize hW : w.alloc (Obj.cells #[.string type, .string key, .slice pa ps.length pcap] 24) = W
  have hBW : Below w.heap.size w W := by rw [← hW]; exact below1 _ _
  have a0 : W.cell? ⟨w.heap.size, 0, none⟩ = some (.string type) := by rw [← hW, World.cell?_alloc_at _ _ _ _ rfl]; rfl
  have a1 : W.cell? ⟨w.heap.size, 1, none⟩ = some (.string key) := by rw [← hW, World.cell?_alloc_at _ _ _ _ rfl]; rfl
  have a2 : W.cell? ⟨w.heap.size, 2, none⟩ = some (.slice pa ps.length pcap) := by rw [← hW, World.cell?_alloc_at _ _ _ _ rfl]; rfl
  have hcl := alive6_any W
  have HBW := Hid.intro hBW
  clear hS hP hBW
  go_enter Try.func9, Try.ntmps9
  go_wp2_with fail
  clear hW
  refine hcl.mono ?_
  clear hcl
  rintro e w1 ⟨rfl, hw1⟩
  have hB1 := HBW.out.trans (hw1.mono HBW.out.size)
  have HB1 := Hid.intro hB1
  have a0 := keptCell hw1 a0
  have a1 := keptCell hw1 a1
  have a2 := keptCell hw1 a2
  have hcl := mean_any a n cap V d type key pa pcap ps w1 (HS.out.kept hB1) (HP.out.kept hB1) hcap hs0 hs1
  have HLN : Hid (meanE n V d type key ps = 0 → (meanG n V d type key ps).length = ps.length ∧ ps.length ≤ 60) := Hid.intro fun h => meanG_len h
  obtain ⟨M, hM⟩ : ∃ M, M = meanG n V d type key ps := ⟨_, rfl⟩
  obtain ⟨x, hx⟩ : ∃ x, x = meanE n V d type key ps := ⟨_, rfl⟩
  have HMM := Hid.intro hM
  have HXX := Hid.intro hx
  rw [← hM, ← hx] at hcl HLN
  clear hM hx hw1 hB1 HBW
  go_wp2_with fail
  refine hcl.mono ?_
  clear hcl
  rintro e w2 ⟨⟨va, vc, rfl, hc, ho⟩, hw2⟩
  have hB2 := HB1.out.trans (hw2.mono HB1.out.size)
  have HB2 := Hid.intro hB2
  have a0 := keptCell hw2 a0
  have a1 := keptCell hw2 a1
  have a2 := keptCell hw2 a2
  have HMA := Hid.intro ho.free.at
  have hba2 : w.heap.size < w2.heap.size := block_lt_of_cell a0
  clear ho hw2 HB1 hB2
  by_cases h0 : x = 0
  case neg =>
    have hb : (x != 0) = true := by simpa using h0
    clear HMM HXX HLN h0 HMA HS HP
    go_wp2_with fail
    go_ret
    exact ⟨rfl, HB2.out⟩
  subst h0
  by_cases hz1' : z < 0
  · clear HMM HXX HLN HMA HS HP
    go_wp2_with fail
    go_ret
    exact ⟨rfl, HB2.out⟩
  by_cases hz2' : (ps.length : Int) ≤ z
  · have hge : z ≥ (ps.length : Int) := hz2'
    clear HMM HXX HLN HMA HS HP
    go_wp2_with fail
    go_ret
    exact ⟨rfl, HB2.out⟩
  obtain ⟨k, hkz⟩ : ∃ k : Nat, z = (k : Int) := ⟨z.toNat, by omega⟩
  subst hkz
  have hkl : k < ps.length := by omega
  obtain ⟨hlM, h60⟩ := HLN.out rfl
  cases d with
  | zero => rw [nil0 ps] at hkl; simp at hkl
  | succ d =>
  have HNM := Hid.intro (mean_names (HXX.out.symm) hkl st)
  rw [← HMM.out] at HNM
  obtain ⟨av, hsub, hone, hnil, hnews⟩ := picks_cells HP.out
  have HSUB := Hid.intro hsub
  have HONE := Hid.intro hone
  have HNIL := Hid.intro hnil
  have hz3 : ¬ ((ps.length : Int) ≤ (k : Int)) := by omega
  have hz4 : (k : Int) < (ps.length : Int) := by omega
  have hk0 : (0 : Int) ≤ (k : Int) := by omega
  rw [hlM]
  generalize hX2 : (w2.alloc (Obj.cells #[.string type, .string key, .slice pa ps.length pcap] 24)).alloc (Obj.cells #[] 63) = X2
  have hBX2 : Below w2.heap.size w2 X2 := by rw [← hX2]; exact below2 _ _ _
  have hbb : X2.heap[w2.heap.size]? = some (.cells #[.string type, .string key, .slice pa ps.length pcap] 24 (0, 0)) := by rw [← hX2]; exact (Below.heap_alloc _ _ _ (by simp)).trans (heap_alloc_new _ _)
  have hb0 : X2.heap[w2.heap.size + 1]? = some (.cells #[] 63 (0, 0)) := by
    rw [← hX2]
    exact (show w2.heap.size + 1 = (w2.alloc (Obj.cells #[.string type, .string key, .slice pa ps.length pcap] 24)).heap.size by simp) ▸ heap_alloc_new _ _
  have hBwX : Below w.heap.size w X2 := HB2.out.trans (hBX2.mono HB2.out.size)
  have HNEWS : Hid (∀ ad, pa = some ad → ∀ j u, ((List.range (ps.length * 3)).map (pkCell ps av))[j]? = some u → X2.cell? (ad.add j) = some u) := Hid.intro fun ad ha j u hu => keptCell hBwX (hnews ad ha j u hu)
  have HROW := Hid.intro (owns_none (base := w2.heap.size) (size := 3) hb0 (by omega))
  have HBB := Hid.intro hbb
  have HBX2 := Hid.intro hBX2
  have a2X := keptCell hBX2 a2
  have HBWX := Hid.intro hBwX
  have hX2s : w2.heap.size ≤ X2.heap.size := hBX2.size
  clear HLN hsub hone hnil hnews hBX2 hbb hb0 hBwX hz2' HMM HXX
  go_wp2_with (at_builtin; refine wpList_append_any _ rfl _ _ 22 rfl w2.heap.size 63 i0 _ 3 56 Try.underlying22 hi0 hz0 hz1 hz2 rfl (by decide) _ 0 _ rfl HROW.out pa ps.length pcap ((List.range (ps.length * 3)).map (pkCell ps av)) rfl (by simp) HNEWS.out HNIL.out HONE.out (by unfold maxLen; omega) (by omega) hX2s ?_)
  clear hX2
  intro v' w4 hown hgr hvb
  have hrow : Row w4 w2.heap.size 63 3 v' ps.length (pkCell ps av) := hown
  obtain ⟨g', c', hv', hg', hc', -⟩ : ∃ g cap, v' = .slice (some ⟨g, 0, none⟩) ps.length cap ∧ w2.heap.size ≤ g ∧ ps.length ≤ cap ∧ True := by
    rcases hrow.shape with ⟨-, h⟩ | ⟨g, cap, h1, h2, h3, -⟩
    · omega
    · exact ⟨g, cap, h1, h2, h3, trivial⟩
  subst hv'
  have hbb4 : w4.heap[w2.heap.size]? = some (.cells #[.string type, .string key, .slice pa ps.length pcap] 24 (0, 0)) := (hgr.block _ (lt_of_block HBB.out) (fun e => by have h9 : some w2.heap.size = some (w2.heap.size + 1) := e; have := Option.some.inj h9; omega)).trans HBB.out
  have hgb : g' ≠ w2.heap.size := fun e => by
    obtain ⟨cs, ho⟩ := hrow.obj (k := g') rfl
    rw [e, hbb4] at ho
    simp at ho
  have hgb' : w2.heap.size ≠ g' := Ne.symm hgb
  obtain ⟨y0, y1, y2⟩ : w4.cell? ⟨w2.heap.size, 0, none⟩ = some (.string type) ∧ w4.cell? ⟨w2.heap.size, 1, none⟩ = some (.string key) ∧ w4.cell? ⟨w2.heap.size, 2, none⟩ = some (.slice pa ps.length pcap) := by simp [World.cell?, hbb4]
  have f2 : w4.frozen? ⟨w2.heap.size, 2, none⟩ = false := by simp [World.frozen?, hbb4]
  have q0 : w4.cell? ⟨g', k * 3, none⟩ = some (.string (nick (pickN ps k))) := by rw [hrow.cell (by omega), pkCell0]
  have qf : w4.frozen? ⟨g', k * 3, none⟩ = false := hrow.free _
  have hB4 : Below w2.heap.size X2 w4 := ⟨hgr.os, hgr.tape, hgr.output, hgr.size, fun q hq => hgr.block q (by omega) (fun e => by have h9 : some q = some (w2.heap.size + 1) := e; have := Option.some.inj h9; omega)⟩
  have hB24 : Below w2.heap.size w2 w4 := HBX2.out.trans hB4
  generalize hX5 : (w4.setCell ⟨w2.heap.size, 2, none⟩ (.slice (some ⟨g', 0, none⟩) ps.length c')).setCell ⟨g', k * 3, none⟩ (.string st) = X5
  have hB45 : Below w2.heap.size w4 X5 := by
    rw [← hX5]
    exact ⟨rfl, rfl, rfl, by simp, fun q hq => by rw [Below.heap_setCell _ _ _ _ (by show q ≠ g'; omega), Below.heap_setCell _ _ _ _ (by show q ≠ w2.heap.size; omega)]⟩
  have hB25 : Below w2.heap.size w2 X5 := hB24.trans hB45
  have hBw5 : Below w.heap.size w X5 := HB2.out.trans (hB25.mono HB2.out.size)
  have hP5 : PicksAt X5 (d + 1) (some ⟨g', 0, none⟩) (ps.set k (asP (pickN ps k) st)) := by
    have h9 : Below w2.heap.size w4 (w4.setCell ⟨w2.heap.size, 2, none⟩ (.slice (some ⟨g', 0, none⟩) ps.length c')) := ⟨rfl, rfl, rfl, by simp, fun q hq => Below.heap_setCell _ _ _ _ (by show q ≠ w2.heap.size; omega)⟩
    have hBw4 : Below w.heap.size w (w4.setCell ⟨w2.heap.size, 2, none⟩ (.slice (some ⟨g', 0, none⟩) ps.length c')) := HB2.out.trans ((hB24.trans h9).mono HB2.out.size)
    rw [← hX5]
    refine picks_own (hrow.set_other (p := ⟨w2.heap.size, 2, none⟩) (fun e => hgb (by cases e; rfl)) _) ⟨fun i hi => let ⟨A, C, e, h1, h2, h3, h4⟩ := HSUB.out.sub i hi; ⟨A, C, e, h1, h2, h3, h4.kept hBw4⟩⟩ (by unfold maxLen; omega) hkl hst fun i hi A _ ⟨C, e⟩ => ?_
    obtain ⟨A', C', e', -, -, -, h4⟩ := HSUB.out.sub i hi
    rw [e] at e'
    cases e'
    rw [hX5]
    exact h4.kept hBw5
  obtain ⟨r0, r1, r2⟩ : X5.cell? ⟨w2.heap.size, 0, none⟩ = some (.string type) ∧ X5.cell? ⟨w2.heap.size, 1, none⟩ = some (.string key) ∧ X5.cell? ⟨w2.heap.size, 2, none⟩ = some (.slice (some ⟨g', 0, none⟩) ps.length c') := by
    have h1 := heap_setCell_same w4 w2.heap.size 2 _ 24 (.slice (some ⟨g', 0, none⟩) ps.length c') hbb4
    have h2 : X5.heap[w2.heap.size]? = some (.cells #[.string type, .string key, .slice (some ⟨g', 0, none⟩) ps.length c'] 24 (0, 0)) := by rw [← hX5, Below.heap_setCell _ _ _ _ hgb']; exact h1
    simp [World.cell?, h2]
  have a2' := keptCell hB25 a2
  have hcl := mean_any a n cap V (d + 1) type key (some ⟨g', 0, none⟩) c' (ps.set k (asP (pickN ps k) st)) X5 (HS.out.kept hBw5) hP5 (by rw [List.length_set]; exact hc') hs0 hs1
  rw [List.length_set] at hcl
  have HLN2 : Hid (meanE n V (d + 1) type key (ps.set k (asP (pickN ps k) st)) = 0 → (meanG n V (d + 1) type key (ps.set k (asP (pickN ps k) st))).length = ps.length) := Hid.intro fun h => by rw [(meanG_len h).1, List.length_set]
  have HB25 := Hid.intro hB25
  have HBW5 := Hid.intro hBw5
  generalize meanG n V (d + 1) type key (ps.set k (asP (pickN ps k) st)) = M' at *
  generalize meanE n V (d + 1) type key (ps.set k (asP (pickN ps k) st)) = x' at *
  clear hown hgr hvb hrow hbb4 hB4 hB24 hB45 hB25 hBw5 hP5 HROW HNEWS HNIL HONE HSUB HBB HBX2 HBWX HS HP
  go_wp2_with fail
  clear hX5 y0 y1 y2 f2 q0 qf
  refine hcl.mono ?_
  clear hcl
  rintro e w6 ⟨⟨vb, wc, rfl, hc6, ho6⟩, hw6⟩
  have hB26 : Below w2.heap.size w2 w6 := HB25.out.trans (hw6.mono HB25.out.size)
  have HBW6 := Hid.intro (HBW5.out.trans (hw6.mono HBW5.out.size))
  have a2' := keptCell hw6 a2'
  rcases HNM.out with h6 | ⟨h6, hset⟩
  · subst h6
    clear hw6 ho6 hB26 HNM HLN2 HMA HB25 HBW5
    go_wp2_with fail
    go_ret
    exact ⟨rfl, HBW6.out⟩
  · subst h6
    have hl' := HLN2.out rfl
    obtain ⟨-, av6, sv6, hG6⟩ := ho6
    obtain ⟨gy, cy, hvy, hgy⟩ : ∃ g cap, Value.slice vb M'.length wc = .slice (some ⟨g, 0, none⟩) M'.length cap ∧ X5.heap.size ≤ g := by
      rcases hG6.row.shape with ⟨-, h⟩ | ⟨g, cap, h1, h2, -, -⟩
      · omega
      · exact ⟨g, cap, h1, h2⟩
    cases hvy
    rw [hl']
    obtain ⟨gx, ox, A, C, A2, C2, hva, cx0, -⟩ := (HMA.out.kept hB26).2 k (by rw [hlM]; exact hkl)
    subst hva
    have cy0 : w6.cell? ⟨gy, k * 6, none⟩ = some (.string (gName (gotN M' k))) := (GRow.cells hG6.row (by omega)).1
    have cyf : w6.frozen? ⟨gy, k * 6, none⟩ = false := hG6.row.free _
    have hG7 := hG6.rename (k := k) (by omega) (gName (gotN M k))
    rw [hset, hlM] at hG7
    have hgM : GotsAt (w6.setCell ⟨gy, k * 6, none⟩ (.string (gName (gotN M k)))) (d + 1) (some ⟨gx, ox, none⟩) M := by
      have h9 : Below w2.heap.size w6 (w6.setCell ⟨gy, k * 6, none⟩ (.string (gName (gotN M k)))) := ⟨rfl, rfl, rfl, by simp, fun q hq => Below.heap_setCell _ _ _ _ (by have := HB25.out.size; show q ≠ gy; omega)⟩
      exact HMA.out.kept (hB26.trans h9)
    obtain ⟨a7, c7, e7, -, hF7⟩ := hG7.out (by rw [hlM]; unfold maxLen; omega)
    rw [hlM] at e7
    cases e7
    have hcl := sameGot_any (d + 1) (some ⟨gx, ox, none⟩) (some ⟨gy, 0, none⟩) vc wc M (w6.setCell ⟨gy, k * 6, none⟩ (.string (gName (gotN M k)))) hgM hF7.at
    rw [hlM] at hcl
    have h9 : Below w.heap.size w6 (w6.setCell ⟨gy, k * 6, none⟩ (.string (gName (gotN M k)))) := ⟨rfl, rfl, rfl, by simp, fun q hq => Below.heap_setCell _ _ _ _ (by have := HBW5.out.size; show q ≠ gy; omega)⟩
    have HB7 : Hid (Below w.heap.size w (w6.setCell ⟨gy, k * 6, none⟩ (.string (gName (gotN M k))))) := Hid.intro (HBW6.out.trans h9)
    clear h9
    clear hw6 hB26 HNM HLN2 HMA HB25 HBW5 HBW6 hG6 hG7 hgM hF7 hset
    go_wp2_with fail
    refine hcl.mono ?_
    clear hcl
    rintro e w8 ⟨rfl, hw8⟩
    have HB8 := Hid.intro (HB7.out.trans (hw8.mono HB7.out.size))
    clear hw8
    go_wp2_with fail
    go_ret
    exact ⟨rfl, HB8.out⟩
end Go.Proofs.Ytjjggefmmeminab
