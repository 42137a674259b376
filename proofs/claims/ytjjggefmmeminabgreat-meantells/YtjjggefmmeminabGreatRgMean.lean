import Derived.Test.YtjjggefmmeminabGreatJRg
import Derived.Test.YtjjggefmmeminabGreatRmAll
import Derived.Test.YtjjggefmmeminabGreatRyCheck
/-
  The contract of stitchref4.Mean.
-/
namespace Go.Proofs.YtjjggefmmeminabGreat
open Go.RowKit Go.Sort Go.PlainAid

set_option maxRecDepth 100000 in
set_option maxHeartbeats 4000000 in
theorem rmean_any (la : Option Addr) (n cap : Nat) (V : Nat → LServ) (d : Nat) (type key : ByteArray) (a : Option Addr) (acap : Nat) (ps : List (Pick d)) (w : World) (hS : ServsAt w la n V) (hP : PicksAt w d a ps) (hcap : ps.length ≤ acap) (hs0 : Small type) (hs1 : Small key) :
    Calls Tryz.prog 7 #[.slice la n cap, .agg #[.string type, .string key, .slice a ps.length acap]] w fun e w' => MeanEnd w.heap.size d (meanG n V d type key ps) (meanE n V d type key ps) e w' ∧ Below w.heap.size w w' := by
  have HS := Hid.intro hS
  have HP := Hid.intro hP
  obtain ⟨M, hM⟩ : ∃ M, M = meanG n V d type key ps := ⟨_, rfl⟩
  obtain ⟨x, hx⟩ : ∃ x, x = meanE n V d type key ps := ⟨_, rfl⟩
  rw [← hM, ← hx]
  have HM : Hid (M = if x = 0 then gots V (allP (ntS V) (seenA V) n) d (pOf (allP (ntS V) (seenA V) n) type) key ps else []) := Hid.intro (by rw [hM, hx]; rfl)
  have HX : Hid (x = if (allF n V).1 ≠ 0 then (allF n V).1 else askE V (allP (ntS V) (seenA V) n) d type key ps) := Hid.intro hx
  generalize hW : w.alloc (Obj.cells #[.string type, .string key, .slice a ps.length acap] 25) = W
  have hBW : Below w.heap.size w W := by rw [← hW]; exact below1 _ _
  have a0 : W.cell? ⟨w.heap.size, 0, none⟩ = some (.string type) := by rw [← hW, World.cell?_alloc_at _ _ _ _ rfl]; rfl
  have a1 : W.cell? ⟨w.heap.size, 1, none⟩ = some (.string key) := by rw [← hW, World.cell?_alloc_at _ _ _ _ rfl]; rfl
  have a2 : W.cell? ⟨w.heap.size, 2, none⟩ = some (.slice a ps.length acap) := by rw [← hW, World.cell?_alloc_at _ _ _ _ rfl]; rfl
  have hcl := refAllN_any la n cap V W (hS.kept hBW)
  have HBW := Hid.intro hBW
  clear hS hP hM hx hBW
  go_enter Tryz.func7, Tryz.ntmps7
  go_wp2_with fail
  clear hW
  refine hcl.mono ?_
  clear hcl
  rintro e w1 ⟨⟨va, vn, vc, rfl, -, hPt⟩, hw1⟩
  have hB1 : Below w.heap.size w w1 := HBW.out.trans (hw1.mono HBW.out.size)
  have a0 := keptCell hw1 a0
  have a1 := keptCell hw1 a1
  have a2 := keptCell hw1 a2
  have hab : w.heap.size < w1.heap.size := block_lt_of_cell a0
  have HPt := Hid.intro hPt
  obtain ⟨fl, hfl⟩ : ∃ fl, fl = allF n V := ⟨_, rfl⟩
  rw [← hfl] at HX HPt
  rw [← hfl]
  have HFL := Hid.intro hfl
  clear hfl hPt
  unfold faultV
  generalize hX1 : w1.alloc (Obj.cells #[.int .i64 fl.1, .int .i64 fl.2] 39) = X1
  have hBX : Below w1.heap.size w1 X1 := by rw [← hX1]; exact below1 _ _
  have f0 : X1.cell? ⟨w1.heap.size, 0, none⟩ = some (.int .i64 fl.1) := by rw [← hX1, World.cell?_alloc_at _ _ _ _ rfl]; rfl
  have b0 := keptCell hBX a0
  have b1 := keptCell hBX a1
  have b2 := keptCell hBX a2
  have HBX := Hid.intro (hB1.trans (hBX.mono hB1.size))
  have HX1 := Hid.intro hBX
  clear hw1 hB1 hBX a0 a1 a2
  by_cases h0 : fl.1 = 0
  case neg =>
    have hb : (fl.1 != 0) = true := by simpa using h0
    have HE : Hid (x = fl.1 ∧ M = []) := Hid.intro (by
      have e1 : x = fl.1 := by rw [HX.out, if_pos h0]
      refine ⟨e1, ?_⟩
      rw [HM.out, if_neg (by rw [e1]; exact h0)])
    clear h0 HX HM HPt HS HP
    go_wp2_with fail
    clear hX1
    go_quiet (fail)
    go_wp2_with fail
    exact bodyPost_ret (v := .tuple #[.slice none 0 0, .int .i64 fl.1]) (by simp [results, Tryz.results7, go_sem]) rfl ⟨by rw [HE.out.1]; exact meanEnd_none HE.out.2, HBX.out.trans ((below_drewN _ _).mono HBX.out.size)⟩
  have hb : (fl.1 != 0) = false := by simpa using h0
  obtain ⟨rv, hPa⟩ := HPt.out h0
  obtain ⟨hvn, hvc, hpts⟩ := hPa.pts
  have HXE : Hid (x = askE V (allP (ntS V) (seenA V) n) d type key ps) := Hid.intro (by rw [HX.out, if_neg (fun h => h h0)])
  have hall : (allF n V).1 = 0 := by rw [← HFL.out]; exact h0
  have HR : Hid (∀ nm, ¬ partIdx (allP (ntS V) (seenA V) n).length (lpOf (allP (ntS V) (seenA V) n)) nm < 0 → PartR n V (pOf (allP (ntS V) (seenA V) n) nm)) := Hid.intro fun nm h => part_r hall h
  generalize allP (ntS V) (seenA V) n = L at *
  subst hvn
  obtain ⟨P, hPA, hcA⟩ := hpts.check
  have hcl := rcheck_any va L.length vc P d type key a acap ps X1 (hPA.kept HX1.out) (HP.out.kept HBX.out) hcap hs0 hs1
  rw [hcA] at hcl
  have HPA := Hid.intro hPa
  clear hPa hpts hPA hcA hall HPt HFL HX h0
  go_wp2_with fail
  clear hX1
  refine hcl.mono ?_
  clear hcl
  rintro e w2 ⟨rfl, hw2⟩
  have HB2 : Hid (Below w.heap.size w w2) := Hid.intro (HBX.out.trans (hw2.mono HBX.out.size))
  have hB12 : Below w1.heap.size w1 w2 := HX1.out.trans (hw2.mono HX1.out.size)
  have HPA2 := Hid.intro (HPA.out.kept' hB12)
  have b0 := keptCell hw2 b0
  have b1 := keptCell hw2 b1
  have b2 := keptCell hw2 b2
  clear hw2 hB12 HPA HX1 HBX f0
  by_cases hc0 : cA L.length (lpOf L) d type key ps = 0
  case neg =>
    have hcb : (cA L.length (lpOf L) d type key ps != 0) = true := by simpa using hc0
    have HE : Hid (x = cA L.length (lpOf L) d type key ps ∧ M = []) := Hid.intro (by
      have e1 : x = cA L.length (lpOf L) d type key ps := by rw [HXE.out]; unfold askE; rw [if_pos hc0]
      refine ⟨e1, ?_⟩
      rw [HM.out, if_neg (by rw [e1]; exact hc0)])
    generalize cA L.length (lpOf L) d type key ps = y at *
    clear hc0 HXE HM HS HP HPA2 HR
    go_wp2_with fail
    exact bodyPost_ret (v := .tuple #[.slice none 0 0, .int .i64 y]) (by simp [results, Tryz.results7, go_sem]) rfl ⟨by rw [HE.out.1]; exact meanEnd_none HE.out.2, HB2.out⟩
  have hcb : (cA L.length (lpOf L) d type key ps != 0) = false := by simpa using hc0
  obtain ⟨hwA, hpi, hcR⟩ := cA_wA hc0
  have hsm := wA_sm hwA
  have hne : ps ≠ [] := fun e => by
    have := hsm.2
    rw [e] at this
    simp at this
  have HXT : Hid (x = if thereP V (pOf L type) key = true then 0 else 5) := Hid.intro (by rw [HXE.out]; unfold askE; rw [if_neg (fun h => h hc0)])
  obtain ⟨i, hi, hil, hpO⟩ := part_spot hpi
  obtain ⟨g, cap', a1', c1, a2', c2, a3, c3, hpv, -, -, -, hpt⟩ := HPA2.out.pt hil
  cases hpv
  have hPR := HR.out type (by omega)
  rw [hpO] at hPR
  have HPR := Hid.intro hPR
  have HPT := Hid.intro hpt
  have HPO := Hid.intro hpO
  have HMF := Hid.intro hi
  have HGET : Hid (∀ w4, Below w2.heap.size w2 w4 → Calls Tryz.prog 21 #[.slice la n cap, .slice (some ⟨g, 0, none⟩) L.length vc, .pointer (some ⟨g, i * 4, none⟩), .string key, .slice a ps.length acap] w4 fun e w' => (∃ va vc, e = .returned (.slice va (gots V L d (pOf L type) key ps).length vc) ∧ (gots V L d (pOf L type) key ps).length ≤ vc ∧ GotsOut w4.heap.size d w' va vc (gots V L d (pOf L type) key ps)) ∧ Below w4.heap.size w4 w') := Hid.intro fun w4 h4 => by
    have hB4 : Below w.heap.size w w4 := HB2.out.trans (h4.mono HB2.out.size)
    have := rget_any la n cap V L (some ⟨g, 0, none⟩) L.length vc (fun nm h => HR.out nm (by omega)) d _ rv g type key a acap ps w4 (HS.out.kept hB4) (HPA2.out.kept' h4) rfl hne hpi hcR hsm.1 (HP.out.kept hB4)
    rw [hi, Int.toNat_natCast] at this
    exact this
  have hcl := refPart_any _ (some ⟨g, 0, none⟩) L.length vc L rv type w2 HPA2.out
  have hlp : 0 < L.length := by omega
  clear hwA hpi hcR hsm hne HXE hc0 hi hpO hpt hPR HPA2 HR HP
  go_wp2_with fail
  refine hcl.mono ?_
  clear hcl
  rintro e w3 ⟨⟨g', hg', rfl⟩, hw3⟩
  cases hg' hlp
  rw [partPtr_at HMF.out]
  have HW3 := Hid.intro hw3
  have HB3 : Hid (Below w.heap.size w w3) := Hid.intro (HB2.out.trans (hw3.mono HB2.out.size))
  have b1 := keptCell hw3 b1
  have b2 := keptCell hw3 b2
  have hcl := rthere_any la n cap V (nth L i) g (i * 4) a1' a2' a3 c1 c2 c3 key w3 (HS.out.kept HB3.out) (HPT.out.kept hw3) HPR.out
  clear hw3 hg' HMF HPT HPR HS HB2 b0
  go_wp2_with fail
  refine hcl.mono ?_
  clear hcl
  rintro e w4 ⟨rfl, hw4⟩
  have HW4 : Hid (Below w2.heap.size w2 w4) := Hid.intro (HW3.out.trans (hw4.mono HW3.out.size))
  have HB4 : Hid (Below w.heap.size w w4) := Hid.intro (HB3.out.trans (hw4.mono HB3.out.size))
  have b1 := keptCell hw4 b1
  have b2 := keptCell hw4 b2
  clear hw4 HW3 HB3
  cases ht : thereP V (nth L i) key with
  | false =>
    have HE : Hid (x = 5 ∧ M = []) := Hid.intro (by
      have e1 : x = 5 := by rw [HXT.out, HPO.out, ht]; rfl
      exact ⟨e1, by rw [HM.out, e1]; rfl⟩)
    clear ht HXT HM HGET HPO b1 b2
    go_wp2_with fail
    exact bodyPost_ret (v := .tuple #[.slice none 0 0, .int .i64 5]) (by simp [results, Tryz.results7, go_sem]) rfl ⟨by rw [HE.out.1]; exact meanEnd_none HE.out.2, HB4.out⟩
  | true =>
    have HE : Hid (x = 0 ∧ M = gots V L d (pOf L type) key ps) := Hid.intro (by
      have e1 : x = 0 := by rw [HXT.out, HPO.out, ht]; rfl
      exact ⟨e1, by rw [HM.out, e1, if_pos rfl]⟩)
    have hcl := HGET.out w4 HW4.out
    have hsz := HB4.out.size
    clear ht HXT HM HGET HPO HW4
    go_wp2_with fail
    refine hcl.mono ?_
    clear hcl
    rintro e w5 ⟨⟨xa, xc, rfl, hxc, hout⟩, hw5⟩
    have HB5 : Hid (Below w.heap.size w w5) := Hid.intro (HB4.out.trans (hw5.mono hsz))
    have HO := Hid.intro (hout.base hsz)
    rw [← HE.out.2] at hxc HO
    rw [← HE.out.2]
    clear hw5 hout HB4 b1 b2
    go_wp2_with fail
    exact bodyPost_ret (v := .tuple #[.slice xa M.length xc, .int .i64 0]) (by simp [results, Tryz.results7, go_sem]) rfl ⟨by rw [HE.out.1]; exact ⟨xa, xc, rfl, hxc, HO.out⟩, HB5.out⟩
end Go.Proofs.YtjjggefmmeminabGreat
