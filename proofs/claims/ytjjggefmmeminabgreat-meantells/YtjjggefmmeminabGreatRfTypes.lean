import Derived.Test.YtjjggefmmeminabGreatRfSim
/-
  The contract of (*stitchref1.Seen).Types: the schema that is seen, and the own names of all fields that are.
-/
namespace Go.Proofs.YtjjggefmmeminabGreat
open Go.RowKit Go.Sort

def visJ (txt : Nat → Nat → ByteArray) (i j : Nat) : List Nat := (List.range j).filter (seenAt txt i)
theorem visJ_yes {txt : Nat → Nat → ByteArray} {i j : Nat} (h : (txt (2 + i) j).size ≠ 0) : visJ txt i (j + 1) = visJ txt i j ++ [j] := by
  unfold visJ; rw [List.range_succ, List.filter_append]
  have : seenAt txt i j = true := by unfold seenAt; rw [decide_eq_false h]; rfl
  simp [this]
theorem visJ_no {txt : Nat → Nat → ByteArray} {i j : Nat} (h : (txt (2 + i) j).size = 0) : visJ txt i (j + 1) = visJ txt i j := by
  unfold visJ; rw [List.range_succ, List.filter_append]
  have : seenAt txt i j = false := by unfold seenAt; rw [decide_eq_true h]; rfl
  simp [this]
theorem visJ_le (txt : Nat → Nat → ByteArray) (i j : Nat) : (visJ txt i j).length ≤ j := by
  unfold visJ
  have := List.length_filter_le (seenAt txt i) (List.range j)
  simpa using this
theorem getD_snoc {l : List Nat} {x q : Nat} (h : q < l.length) : (l ++ [x]).getD q 0 = l.getD q 0 := by
  simp [List.getD, List.getElem?_append, h]
theorem getD_last {l : List Nat} {x : Nat} : (l ++ [x]).getD l.length 0 = x := by simp [List.getD]

theorem fieldCells_snoc (F : Nat → LField) (k : Nat) : (List.range ((k + 1) * 3)).map (fieldCell F) = (List.range (k * 3)).map (fieldCell F) ++ [.string (F k).name, .int .i64 (F k).kind, .string (F k).type] := by
  rw [show (k + 1) * 3 = k * 3 + 1 + 1 + 1 by omega, List.range_succ, List.range_succ, List.range_succ]
  simp only [List.map_append, List.map_cons, List.map_nil, List.append_assoc]
  rw [fieldCell0, fieldCell1, show k * 3 + 1 + 1 = k * 3 + 2 by omega, fieldCell2]
  rfl
theorem row_field_more {w : World} {B : Nat} {v : Value} {l : List Nat} {j : Nat} {M : Nat → LField} (h : w.ownsRow B 113 3 v (l.length + 1) ((List.range (l.length * 3)).map (fieldCell (fun q => M (l.getD q 0))) ++ [.string (M j).name, .int .i64 (M j).kind, .string (M j).type])) : Row w B 113 3 v (l ++ [j]).length (fieldCell (fun q => M ((l ++ [j]).getD q 0))) := by
  unfold Row
  rw [List.length_append, List.length_singleton, fieldCells_snoc, getD_last]
  have e : (List.range (l.length * 3)).map (fieldCell (fun q => M ((l ++ [j]).getD q 0))) = (List.range (l.length * 3)).map (fieldCell (fun q => M (l.getD q 0))) := range_map_congr fun q hq => by
    have e3 : (l ++ [j]).getD (q / 3) 0 = l.getD (q / 3) 0 := getD_snoc (by omega)
    unfold fieldCell; simp only [e3]
  rw [e]; exact h
theorem row_text_more {w : World} {B : Nat} {v : Value} {l : List Nat} {j : Nat} {M : Nat → ByteArray} (h : w.ownsRow B 9 1 v (l.length + 1) ((List.range (l.length * 1)).map (textCell (fun q => M (l.getD q 0))) ++ [.string (M j)])) : Row w B 9 1 v (l ++ [j]).length (textCell (fun q => M ((l ++ [j]).getD q 0))) := by
  unfold Row
  rw [List.length_append, List.length_singleton, textCell_snoc, getD_last]
  have e : (List.range (l.length * 1)).map (textCell (fun q => M ((l ++ [j]).getD q 0))) = (List.range (l.length * 1)).map (textCell (fun q => M (l.getD q 0))) := range_map_congr fun q hq => by
    have e3 : (l ++ [j]).getD q 0 = l.getD q 0 := getD_snoc (by omega)
    unfold textCell; simp only [e3]
  rw [e]; exact h

/-- What the traced types are made of. -/
def typR (n : Nat) (T : Nat → LType) (txt : Nat → Nat → ByteArray) (A : Nat → Option Addr) (Cp : Nat → Nat) (i : Nat) : LType := ⟨txt 1 i, A i, (visL T txt i).length, Cp i, fun q => mkF n T txt i ((visL T txt i).getD q 0)⟩

/-- A type more in the answer, and its own names. -/
theorem typR_step {Y w3 w6 w8 : World} {B0 n k : Nat} {T : Nat → LType} {txt : Nat → Nat → ByteArray} {A : Nat → Option Addr} {Cp : Nat → Nat} {NV : Nat → Value} {v v' u u' nm : Value} {fa : Option Addr} {fc : Nat} {X X' : Obj}
    (hB0 : B0 ≤ Y.heap.size) (hb : Below Y.heap.size Y w3) (hrT : Row Y B0 96 2 v k (typeCell (typR n T txt A Cp))) (hrN : Row Y B0 65 1 u k NV)
    (hrs : ∀ i, i < k → (visL T txt i).length ≤ Cp i ∧ Row Y B0 113 3 (.slice (A i) (visL T txt i).length (Cp i)) (visL T txt i).length (fieldCell (fun q => mkF n T txt i ((visL T txt i).getD q 0))) ∧ Row Y B0 9 1 (NV i) (visL T txt i).length (textCell (fun q => ((T i).F ((visL T txt i).getD q 0)).name)))
    (hc : (visL T txt k).length ≤ fc) (hf : Row w3 Y.heap.size 113 3 (.slice fa (visL T txt k).length fc) (visL T txt k).length (fieldCell (fun q => mkF n T txt k ((visL T txt k).getD q 0)))) (hn : Row w3 Y.heap.size 9 1 nm (visL T txt k).length (textCell (fun q => ((T k).F ((visL T txt k).getD q 0)).name)))
    (g6 : (w3.alloc X).grownBy w6 v.ownBlock) (o6 : w6.ownsRow B0 96 2 v' (k + 1) ((List.range (k * 2)).map (typeCell (typR n T txt A Cp)) ++ [.string (txt 1 k), .slice fa (visL T txt k).length fc]))
    (g8 : (w6.alloc X').grownBy w8 u.ownBlock) (o8 : w8.ownsRow B0 65 1 u' (k + 1) ((List.range (k * 1)).map NV ++ [nm])) :
    ∃ A' Cp' NV', Row w8 B0 96 2 v' (k + 1) (typeCell (typR n T txt A' Cp')) ∧ Row w8 B0 65 1 u' (k + 1) NV' ∧ ∀ i, i < k + 1 → (visL T txt i).length ≤ Cp' i ∧ Row w8 B0 113 3 (.slice (A' i) (visL T txt i).length (Cp' i)) (visL T txt i).length (fieldCell (fun q => mkF n T txt i ((visL T txt i).getD q 0))) ∧ Row w8 B0 9 1 (NV' i) (visL T txt i).length (textCell (fun q => ((T i).F ((visL T txt i).getD q 0)).name)) := by
  have tT := (hrT.kept hb).kept (below1 w3 X)
  have tN := (hrN.kept hb).kept (below1 w3 X)
  have tN6 := (tN.grown g6 fun b e => tN.ne tT (by decide) e).kept (below1 w6 X')
  have go : ∀ {e sz m : Nat} {x : Value} {f : Nat → Value}, e ≠ 96 → e ≠ 65 → Row w3 B0 e sz x m f → Row w8 B0 e sz x m f := fun h1 h2 hr => by
    have q1 := hr.kept (below1 w3 X)
    have q2 := (q1.grown g6 fun b e => q1.ne tT h1 e).kept (below1 w6 X')
    exact q2.grown g8 fun b e => q2.ne tN6 h2 e
  have rT : Row w6 B0 96 2 v' (k + 1) (typeCell (typR n T txt (fun i => if i = k then fa else A i) (fun i => if i = k then fc else Cp i))) := by
    have e := typeCells_succ (typR n T txt (fun i => if i = k then fa else A i) (fun i => if i = k then fc else Cp i)) k
    have e2 : typeCells (typR n T txt (fun i => if i = k then fa else A i) (fun i => if i = k then fc else Cp i)) k = typeCells (typR n T txt A Cp) k := typeCells_congr fun i hi => by
      unfold typR; simp [show ¬ i = k by omega]
    unfold Row
    show w6.ownsRow B0 96 2 v' (k + 1) (typeCells _ (k + 1))
    rw [e, e2]
    unfold typR
    simp only [if_pos]
    exact o6
  have rT8 := rT.kept (below1 w6 X')
  refine ⟨_, _, fun i => if i = k then nm else NV i, rT8.grown g8 (fun b e => rT8.ne tN6 (by decide) e), ?_, fun i hi => ?_⟩
  · unfold Row
    rw [show (k + 1) * 1 = k * 1 + 1 by omega, List.range_succ, List.map_append]
    have e : (List.range (k * 1)).map (fun i => if i = k then nm else NV i) = (List.range (k * 1)).map NV := range_map_congr fun j hj => by rw [if_neg (by omega)]
    rw [e]
    simp only [List.map_cons, List.map_nil]
    rw [if_pos (by omega)]
    exact o8
  · by_cases e : i = k
    · subst e
      simp only [if_pos]
      exact ⟨hc, go (by decide) (by decide) (hf.base hB0), go (by decide) (by decide) (hn.base hB0)⟩
    · simp only [e, if_false]
      obtain ⟨q1, q2, q3⟩ := hrs i (by omega)
      exact ⟨q1, go (by decide) (by decide) (q2.kept hb), go (by decide) (by decide) (q3.kept hb)⟩

set_option maxRecDepth 100000 in
set_option maxHeartbeats 8000000 in
theorem refTypes_any (a : Option Addr) (n cap base bs : Nat) (fv : Value) (rows : Nat → Value) (T : Nat → LType) (txt : Nat → Nat → ByteArray) (w : World) (hT : TypesAt w a n T) (hS : RS w base bs n fv rows (initLen n T) txt) (hR : RightS n (initS T)) (h0 : ∀ i, i < n → txt 0 i = (T i).name) (hkw : ∀ i, i < n → ∀ j, j < (T i).nf → (Lit.int .i64 ((T i).F j).kind).wf = true) :
    Calls Tryz.prog 40 #[.pointer (some ⟨bs, 0, none⟩), .slice a n cap] w fun e w' => (∃ a2 c2 a3 c3 A Cp NV, e = .returned (.tuple #[.slice a2 n c2, .slice a3 n c3]) ∧ n ≤ c2 ∧ TypesAt w' a2 n (typR n T txt A Cp) ∧ Row w' w.heap.size 65 1 (.slice a3 n c3) n NV ∧ (∀ i, i < n → Row w' w.heap.size 9 1 (NV i) (visL T txt i).length (textCell (fun q => ((T i).F ((visL T txt i).getD q 0)).name))) ∧ Row w' w.heap.size 96 2 (.slice a2 n c2) n (typeCell (typR n T txt A Cp)) ∧ ∀ i, i < n → Row w' w.heap.size 113 3 (.slice (A i) (visL T txt i).length (Cp i)) (visL T txt i).length (fieldCell (fun q => mkF n T txt i ((visL T txt i).getD q 0)))) ∧ Below w.heap.size w w' := by
  have hn8 : n ≤ 8 := hR.few
  have HT := Hid.intro hT
  have HS := Hid.intro hS
  have HR := Hid.intro hR
  have H0 := Hid.intro h0
  have HKW := Hid.intro hkw
  clear hT hS hR h0 hkw
  go_enter Tryz.func40, Tryz.ntmps40
  go_wp2_with fail
  go_loopw [6, 7, 17] (fun v v2 i wr => ∃ k : Nat, k ≤ n ∧ i = .int .i64 k ∧ Below w.heap.size w wr ∧ ∃ A Cp NV, Row wr w.heap.size 96 2 v k (typeCell (typR n T txt A Cp)) ∧ Row wr w.heap.size 65 1 v2 k NV ∧ ∀ i, i < k → (visL T txt i).length ≤ Cp i ∧ Row wr w.heap.size 113 3 (.slice (A i) (visL T txt i).length (Cp i)) (visL T txt i).length (fieldCell (fun q => mkF n T txt i ((visL T txt i).getD q 0))) ∧ Row wr w.heap.size 9 1 (NV i) (visL T txt i).length (textCell (fun q => ((T i).F ((visL T txt i).getD q 0)).name))) (fun _ _ i _ => n - (intOf i).toNat)
  case atStart => exact ⟨0, Nat.zero_le _, rfl, Below.refl _ _, fun _ => none, fun _ => 0, fun _ => .slice none 0 0, World.ownsRow_nil _ _ _ _, World.ownsRow_nil _ _ _ _, fun i hi => absurd hi (Nat.not_lt_zero _)⟩
  case round =>
    obtain ⟨k, hk, rfl, hw, A, Cp, NV, hrT, hrN, hrs⟩ := hrel
    by_cases hlt : k < n
    · obtain ⟨b, o, rfl, t0, t1, hfc, hsn, hF⟩ := (HT.out.kept hw).2 k hlt
      have hlt' : (k : Int) < (n : Int) := by omega
      have hk0 : (0 : Int) ≤ (k : Int) := by omega
      have hnf : (T k).nf ≤ 10 := (HR.out.fld k hlt).few
      have hSr := HS.out.kept hw
      generalize hY : wr.alloc (Obj.cells #[.string (T k).name, .slice (T k).fa (T k).nf (T k).fcap] 96) = Y
      have hBY : Below wr.heap.size wr Y := by rw [← hY]; exact below1 _ _
      have b1 : Y.cell? ⟨wr.heap.size, 1, none⟩ = some (.slice (T k).fa (T k).nf (T k).fcap) := by rw [← hY, World.cell?_alloc_at _ _ _ _ rfl]; rfl
      have hSY := hSr.kept hBY
      -- what types are called
      have rk1 := hSY.texts 1 (by omega)
      rcases rk1.shape with ⟨-, h0'⟩ | ⟨g1, cap1, hv1, hg1, -, -⟩
      · exact absurd h0' (by show ¬ n = 0; omega)
      have s1 : Y.cell? ⟨bs, 1, none⟩ = some (.slice (some ⟨g1, 0, none⟩) n cap1) := by
        have : rows 1 = .slice (some ⟨g1, 0, none⟩) n cap1 := hv1
        simp [World.cell?, hSY.box, this]
      have c1 : Y.cell? ⟨g1, k, none⟩ = some (.string (txt 1 k)) := by
        rw [hv1] at rk1
        have := rk1.cell (j := k) (by show k < n * 1; omega)
        rw [this]; rfl
      have hbtl : wr.heap.size < Y.heap.size := block_lt_of_cell b1
      have HSY := Hid.intro hSY
      have HFY := Hid.intro (hF.kept hBY)
      have HWY : Hid (Below w.heap.size w Y) := hw.trans (hBY.mono hw.size)
      have HRT := Hid.intro (hrT.kept hBY)
      have HRN := Hid.intro (hrN.kept hBY)
      have HRS : Hid (∀ i, i < k → (visL T txt i).length ≤ Cp i ∧ Row Y w.heap.size 113 3 (.slice (A i) (visL T txt i).length (Cp i)) (visL T txt i).length (fieldCell (fun q => mkF n T txt i ((visL T txt i).getD q 0))) ∧ Row Y w.heap.size 9 1 (NV i) (visL T txt i).length (textCell (fun q => ((T i).F ((visL T txt i).getD q 0)).name))) := fun i hi => ⟨(hrs i hi).1, (hrs i hi).2.1.kept hBY, (hrs i hi).2.2.kept hBY⟩
      clear hw hrT hrN hrs hSr hSY hBY hF rk1 hv1
      go_wp2_with fail
      clear hY t0 t1
      have hBX := below1 Y (Obj.cells #[.string (txt 1 k), .slice none 0 0] 96)
      have hbx : (Y.alloc (Obj.cells #[.string (txt 1 k), .slice none 0 0] 96)).heap[Y.heap.size]? = some (.cells #[.string (txt 1 k), .slice none 0 0] 96 (0, 0)) := heap_alloc_new _ _
      generalize Y.alloc (Obj.cells #[.string (txt 1 k), .slice none 0 0] 96) = X at *
      have HBX := Hid.intro hBX
      have HX := Hid.intro hbx
      clear hBX hbx b1 s1 c1
      have hnf' : (T k).nf ≤ 9223372036854775807 := by omega
      obtain ⟨is, si, sz0, sz1, sz2⟩ := info_parts' Tryz.info9
      obtain ⟨iF, fi, fz0, fz1, fz2⟩ := info_parts' Tryz.info113
      go_loopw [11, 33] (fun v i w3 => ∃ j : Nat, j ≤ (T k).nf ∧ i = .int .i64 j ∧ Below Y.heap.size Y w3 ∧ Row w3 Y.heap.size 9 1 v (visJ txt k j).length (textCell (fun q => ((T k).F ((visJ txt k j).getD q 0)).name)) ∧ ∃ fx, w3.heap[Y.heap.size]? = some (.cells #[.string (txt 1 k), fx] 96 (0, 0)) ∧ Row w3 Y.heap.size 113 3 fx (visJ txt k j).length (fieldCell (fun q => mkF n T txt k ((visJ txt k j).getD q 0)))) (fun _ i _ => (T k).nf - (intOf i).toNat)
      case atStart => exact ⟨0, Nat.zero_le _, rfl, HBX.out, World.ownsRow_nil _ _ _ _, _, HX.out, World.ownsRow_nil _ _ _ _⟩
      case round =>
        obtain ⟨j, hj, rfl, hw3, hrow, fx, hbx, hfx⟩ := hrel
        by_cases hjl : j < (T k).nf
        · obtain ⟨b2, o2, ha2, f0, f1, f2, hs0, hs2, -⟩ := (HFY.out.kept hw3).2 j hjl
          rw [ha2]
          have hjl' : (j : Int) < ((T k).nf : Int) := by omega
          have hj0 : (0 : Int) ≤ (j : Int) := by omega
          obtain ⟨vn, cn, hvn, -⟩ := hrow.slice
          subst hvn
          obtain ⟨va, vc, hvx, -⟩ := hfx.slice
          subst hvx
          generalize hV : wr.alloc (Obj.cells #[.string ((T k).F j).name, .int .i64 ((T k).F j).kind, .string ((T k).F j).type] 113) = V
          have hBV : Below wr.heap.size wr V := by rw [← hV]; exact below1 _ _
          have k0 : V.cell? ⟨wr.heap.size, 0, none⟩ = some (.string ((T k).F j).name) := by rw [← hV, World.cell?_alloc_at _ _ _ _ rfl]; rfl
          have k1 : V.cell? ⟨wr.heap.size, 1, none⟩ = some (.int .i64 ((T k).F j).kind) := by rw [← hV, World.cell?_alloc_at _ _ _ _ rfl]; rfl
          have k2 : V.cell? ⟨wr.heap.size, 2, none⟩ = some (.string ((T k).F j).type) := by rw [← hV, World.cell?_alloc_at _ _ _ _ rfl]; rfl
          have hYV : Below Y.heap.size Y V := hw3.trans (hBV.mono hw3.size)
          have hSV := HSY.out.kept hYV
          -- the rows
          have hfr := hSV.frow
          rcases hfr.shape with ⟨-, h0'⟩ | ⟨gf, capf, hvf, -, -, -⟩
          · omega
          have s2 : V.cell? ⟨bs, 2, none⟩ = some (.slice (some ⟨gf, 0, none⟩) n capf) := by simp [World.cell?, hSV.box, hvf]
          rw [hvf] at hfr
          have hlen : initLen n T (2 + k) = (T k).nf := by unfold initLen; rw [if_neg (by omega), show 2 + k - 2 = k by omega]
          have rkk := hSV.texts (2 + k) (by omega)
          rw [hlen] at rkk
          rcases rkk.shape with ⟨-, h0'⟩ | ⟨gk, capk, hvk, -, -, -⟩
          · omega
          have s3 : V.cell? ⟨gf, k, none⟩ = some (.slice (some ⟨gk, 0, none⟩) (T k).nf capk) := by
            rw [hfr.cell (j := k) (by omega), hvk]
          rw [hvk] at rkk
          have s4 : V.cell? ⟨gk, j, none⟩ = some (.string (txt (2 + k) j)) := by rw [rkk.cell (j := j) (by omega)]; rfl
          have HW3 := Hid.intro hYV
          have HRow := Hid.intro (hrow.kept hBV)
          have HFX := Hid.intro (hfx.kept hBV)
          have HBXr := Hid.intro (blk_kept hBV hbx)
          have HSV := Hid.intro hSV
          have hfl : wr.heap.size < V.heap.size := block_lt_of_cell k0
          have hgl1 : bs < V.heap.size := block_lt_of_cell s2
          have hgl2 : gf < V.heap.size := block_lt_of_cell s3
          have hgl3 : gk < V.heap.size := block_lt_of_cell s4
          have HFXlt : Hid (∀ b, (Value.slice va (visJ txt k j).length vc).ownBlock = some b → b < wr.heap.size) := fun b hb => (hfx.lt hb).2
          have hYr : Y.heap.size < wr.heap.size := lt_of_block hbx
          clear hrow hfx hbx hBV hYV hSV hfr rkk hw3 hvk hlen
          by_cases hem : (txt (2 + k) j).size = 0
          · have he1 : (txt (2 + k) j).toList.isEmpty = true := empty_size.2 hem
            have hvz := visJ_no hem
            clear hem
            go_wp2_with fail
            go_roundw
            case rel => exact ⟨j + 1, by omega, by go_num, HW3.out, by rw [hvz]; exact HRow.out, _, HBXr.out, by rw [hvz]; exact HFX.out⟩
            case measure => simp [intOf]; omega
          have he1 : (txt (2 + k) j).toList.isEmpty = false := by
            cases h : (txt (2 + k) j).toList.isEmpty with
            | false => rfl
            | true => exact absurd (empty_size.1 h) hem
          have HVY := Hid.intro (visJ_yes hem)
          clear hem
          go_wp2_with fail
          clear hV
          go_region
          have hBD : Below V.heap.size V (V.alloc (Obj.cells #[.string (txt (2 + k) j), .int .i64 ((T k).F j).kind, .string ⟨#[]⟩] 113)).drew := (below1 V _).drew
          have hgD : (V.alloc (Obj.cells #[.string (txt (2 + k) j), .int .i64 ((T k).F j).kind, .string ⟨#[]⟩] 113)).drew.heap[V.heap.size]? = some (.cells #[.string (txt (2 + k) j), .int .i64 ((T k).F j).kind, .string ⟨#[]⟩] 113 (0, 0)) := heap_alloc_new V _
          generalize (V.alloc (Obj.cells #[.string (txt (2 + k) j), .int .i64 ((T k).F j).kind, .string ⟨#[]⟩] 113)).drew = D5 at *
          have d1 := keptCell hBD k1
          have HD5 := Hid.intro hBD
          have HG5 := Hid.intro hgD
          clear hBD hgD
          by_cases hkd : ((T k).F j).kind = 1
          · have hkb : (((T k).F j).kind != 1) = false := by simpa using hkd
            have HTY : Hid (mkF n T txt k j = ⟨txt (2 + k) j, ((T k).F j).kind, ⟨#[]⟩⟩) := by unfold Hid mkF; rw [if_pos hkd]
            clear hkd
            have hx5 := blk_kept HD5.out HBXr.out
            have x1 : D5.cell? ⟨Y.heap.size, 1, none⟩ = some (.slice va (visJ txt k j).length vc) := by simp [World.cell?, hx5]
            have g0 : D5.cell? ⟨V.heap.size, 0, none⟩ = some (.string (txt (2 + k) j)) := by simp [World.cell?, HG5.out]
            have g1 : D5.cell? ⟨V.heap.size, 1, none⟩ = some (.int .i64 ((T k).F j).kind) := by simp [World.cell?, HG5.out]
            have g2 : D5.cell? ⟨V.heap.size, 2, none⟩ = some (.string ⟨#[]⟩) := by simp [World.cell?, HG5.out]
            have n0 := keptCell HD5.out k0
            have HO : Hid (Row (D5.alloc (Obj.cells #[.string (txt (2 + k) j), .int .i64 ((T k).F j).kind, .string ⟨#[]⟩] 113)) Y.heap.size 113 3 (.slice va (visJ txt k j).length vc) (visJ txt k j).length (fieldCell (fun q => mkF n T txt k ((visJ txt k j).getD q 0)))) := (HFX.out.kept HD5.out).kept (below1 _ _)
            have HX5 := Hid.intro hx5
            have hcl : (visJ txt k j).length ≤ 10 := by have := visJ_le txt k j; omega
            have hzd : Y.heap.size ≤ D5.heap.size := Nat.le_trans HW3.out.size HD5.out.size
            have HN5 := Hid.intro (HRow.out.kept HD5.out)
            have hxl : Y.heap.size < D5.heap.size := lt_of_block hx5
            have hfl5 : wr.heap.size < D5.heap.size := block_lt_of_cell n0
            have HD5Y : Hid (Below Y.heap.size Y D5) := HW3.out.trans (HD5.out.mono HW3.out.size)
            clear hx5
            go_wp2_with (at_builtin; refine wpList_append_any _ rfl _ _ 94 rfl Y.heap.size 113 iF _ 3 40 Tryz.underlying94 fi fz0 fz1 fz2 rfl (by decide) _ (visJ txt k j).length _ rfl HO.out (some ⟨D5.heap.size, 0, none⟩) 1 1 [.string (txt (2 + k) j), .int .i64 ((T k).F j).kind, .string ⟨#[]⟩] rfl rfl (alloc_news D5 #[.string (txt (2 + k) j), .int .i64 ((T k).F j).kind, .string ⟨#[]⟩] _) (fun h => by cases h) (by intro u hu; simp at hu; rcases hu with rfl | rfl | rfl <;> rfl) (by unfold maxLen; omega) (by omega) (by simp; omega) ?_)
            intro v6 w6 hown6 hg6 _
            have hx6 : w6.heap[Y.heap.size]? = some (.cells #[.string (txt 1 k), .slice va (visJ txt k j).length vc] 96 (0, 0)) := (hg6.block _ (by simp; omega) (fun e => HO.out.box_ne e.symm (((below1 D5 _).block _ hxl).trans HX5.out) (by decide) rfl)).trans (((below1 D5 _).block _ hxl).trans HX5.out)
            have y1 : w6.cell? ⟨Y.heap.size, 1, none⟩ = some (.slice va (visJ txt k j).length vc) := by simp [World.cell?, hx6]
            have y2 : w6.frozen? ⟨Y.heap.size, 1, none⟩ = false := by simp [World.frozen?, hx6]
            have HLJ : Hid ((visJ txt k j ++ [j]).length = (visJ txt k j).length + 1) := by unfold Hid; simp
            have hr6 : Row w6 Y.heap.size 113 3 v6 ((visJ txt k j).length + 1) (fieldCell (fun q => mkF n T txt k ((visJ txt k j ++ [j]).getD q 0))) := by have h := row_field_more (w := w6) (B := Y.heap.size) (v := v6) (l := visJ txt k j) (j := j) (M := mkF n T txt k) (by rw [HTY.out]; exact hown6); rw [HLJ.out] at h; exact h
            obtain ⟨a6, c6, hv6, -⟩ := hr6.slice
            subst hv6
            have hn6 : Row w6 Y.heap.size 9 1 (.slice vn (visJ txt k j).length cn) (visJ txt k j).length (textCell (fun q => ((T k).F ((visJ txt k j).getD q 0)).name)) := (HN5.out.kept (below1 _ _)).grown hg6 (fun b hb => (HN5.out.kept (below1 _ _)).ne HO.out (by decide) hb)
            have hxl6 := lt_of_block hx6
            have m0 : w6.cell? ⟨wr.heap.size, 0, none⟩ = some (.string ((T k).F j).name) := hg6.cell (keptCell (below1 D5 _) n0) (fun e => absurd (HFXlt.out _ e.symm) (Nat.lt_irrefl _))
            have hneY : ¬ wr.heap.size = Y.heap.size := by omega
            have hneY2 : ¬ Y.heap.size = wr.heap.size := by omega
            have hset := heap_setCell_same w6 Y.heap.size 1 _ 96 (.slice a6 ((visJ txt k j).length + 1) c6) hx6
            have hst : ∀ {B' e sz m : Nat} {u : Value} {f : Nat → Value}, e ≠ 96 → Row w6 B' e sz u m f → Row (w6.setCell ⟨Y.heap.size, 1, none⟩ (.slice a6 ((visJ txt k j).length + 1) c6)) B' e sz u m f := fun he hr => hr.set_other (p := ⟨Y.heap.size, 1, none⟩) (fun e' => hr.box_ne e' hx6 he rfl) _
            have HR7 := Hid.intro (hst (by decide) hr6)
            have HN7 := Hid.intro (hst (by decide) hn6)
            have HX7 : Hid ((w6.setCell ⟨Y.heap.size, 1, none⟩ (.slice a6 ((visJ txt k j).length + 1) c6)).heap[Y.heap.size]? = some (.cells #[.string (txt 1 k), .slice a6 ((visJ txt k j).length + 1) c6] 96 (0, 0))) := by unfold Hid; rw [hset]; rfl
            have HB7 : Hid (Below Y.heap.size Y (w6.setCell ⟨Y.heap.size, 1, none⟩ (.slice a6 ((visJ txt k j).length + 1) c6))) := ((HD5Y.out.trans ((below1 D5 _).mono hzd)).grown hg6 (by simp; omega) (fun b hb => (HFX.out.lt hb).1)).setCell (Nat.le_refl _) _
            have hz6 : Y.heap.size ≤ w6.heap.size := by have := HB7.out.size; simpa using this
            have HO2 : Hid (Row ((w6.setCell ⟨Y.heap.size, 1, none⟩ (.slice a6 ((visJ txt k j).length + 1) c6)).alloc (Obj.cells #[.string ((T k).F j).name] 9)) Y.heap.size 9 1 (.slice vn (visJ txt k j).length cn) (visJ txt k j).length (textCell (fun q => ((T k).F ((visJ txt k j).getD q 0)).name))) := HN7.out.kept (below1 _ _)
            clear hown6 hg6 hr6 hn6 hst hset hx6 x1 g0 g1 g2 n0 HO
            go_wp2_with (at_builtin; refine wpList_append_any _ rfl _ _ 65 rfl Y.heap.size 9 is _ 1 16 Tryz.underlying65 si sz0 sz1 sz2 rfl (by decide) _ (visJ txt k j).length _ rfl HO2.out (some ⟨w6.heap.size, 0, none⟩) 1 1 [.string ((T k).F j).name] rfl rfl (fun ad had => alloc_news (w6.setCell ⟨Y.heap.size, 1, none⟩ (.slice a6 ((visJ txt k j).length + 1) c6)) #[.string ((T k).F j).name] _ ad (by simpa using had)) (fun h => by cases h) (by intro u hu; simp at hu; subst hu; rfl) (by unfold maxLen; omega) (by omega) (by simp; omega) ?_)
            intro v8 w8 hown8 hg8 _
            have HR8 := Hid.intro ((HR7.out.kept (below1 _ _)).grown hg8 (fun b hb => (HR7.out.kept (below1 _ _)).ne HO2.out (by decide) hb))
            have HN8 : Hid (Row w8 Y.heap.size 9 1 v8 ((visJ txt k j).length + 1) (textCell (fun q => ((T k).F ((visJ txt k j ++ [j]).getD q 0)).name))) := by have h := row_text_more (w := w8) (B := Y.heap.size) (v := v8) (l := visJ txt k j) (j := j) (M := fun q => ((T k).F q).name) (by rw [Nat.mul_one]; exact hown8); rw [HLJ.out] at h; exact h
            have HX8 : Hid (w8.heap[Y.heap.size]? = some (.cells #[.string (txt 1 k), .slice a6 ((visJ txt k j).length + 1) c6] 96 (0, 0))) := (hg8.block _ (by simp; omega) (fun e => HO2.out.box_ne e.symm (((below1 _ _).block _ (by simp; omega)).trans HX7.out) (by decide) rfl)).trans (((below1 _ _).block _ (by simp; omega)).trans HX7.out)
            have HB8 : Hid (Below Y.heap.size Y w8) := (HB7.out.trans ((below1 _ _).mono (by simpa using hz6))).grown hg8 (by simp; omega) (fun b hb => (HRow.out.lt hb).1)
            clear hown8 hg8 y1 y2 m0
            go_wp2_with fail
            go_roundw
            case rel => exact ⟨j + 1, by omega, by go_num, HB8.out, by rw [HVY.out, HLJ.out]; exact HN8.out, _, HX8.out, by rw [HVY.out, HLJ.out]; exact HR8.out⟩
            case measure => simp [intOf]; omega
          · have hkb : (((T k).F j).kind != 1) = true := by simpa using hkd
            obtain ⟨q1, q2⟩ := own_find HR.out H0.out hlt hjl hkd
            obtain ⟨-, -, q3⟩ := pl_hit q2
            have HTY0 : Hid (mkF n T txt k j = ⟨txt (2 + k) j, ((T k).F j).kind, txt 1 (pl n (txt 0) ((T k).F j).type).toNat⟩) := by unfold Hid mkF; rw [if_neg hkd]
            generalize hqq : (pl n (txt 0) ((T k).F j).type).toNat = q at *
            have hq' : (q : Int) < (n : Int) := by omega
            have hq0 : (0 : Int) ≤ (q : Int) := by omega
            have r0 := HSV.out.texts 0 (by omega)
            have r1 := HSV.out.texts 1 (by omega)
            have l0 : initLen n T 0 = n := rfl
            have l1 : initLen n T 1 = n := rfl
            rw [l0] at r0
            rw [l1] at r1
            rcases r0.shape with ⟨-, h0'⟩ | ⟨gz, capz, hvz, -, -, -⟩
            · omega
            rcases r1.shape with ⟨-, h0'⟩ | ⟨gc, capc, hvc, -, -, -⟩
            · omega
            have e0 : V.cell? ⟨bs, 0, none⟩ = some (.slice (some ⟨gz, 0, none⟩) n capz) := by simp [World.cell?, HSV.out.box, hvz]
            have e1 : V.cell? ⟨bs, 1, none⟩ = some (.slice (some ⟨gc, 0, none⟩) n capc) := by simp [World.cell?, HSV.out.box, hvc]
            have e2 : V.cell? ⟨gc, q, none⟩ = some (.string (txt 1 q)) := by
              rw [hvc] at r1
              rw [r1.cell (j := q) (by omega)]; rfl
            obtain ⟨az, cz, hkz, -, hKZ⟩ := HSV.out.keys (k := 0) (by omega)
            rw [l0] at hkz hKZ
            rw [hvz] at hkz
            cases hkz
            have HPL : Hid (∀ Z, Below V.heap.size V Z → Calls Tryz.prog 74 #[.slice (some ⟨gz, 0, none⟩) n capz, .string ((T k).F j).type] Z fun e w' => e = .returned (.int .i64 (q : Int)) ∧ Below Z.heap.size Z w' ∧ Below V.heap.size V w') := fun Z hZ => (place_any _ n capz (txt 0) _ Z (hKZ.kept hZ)).mono fun e w' h => ⟨by rw [h.1, q3], h.2, hZ.trans (h.2.mono hZ.size)⟩
            have hbD : Below V.heap.size V D5.drew := HD5.out.drew
            have u0 := keptCell HD5.out e0
            have u1 := keptCell HD5.out e1
            have u2 := keptCell HD5.out e2
            have u3 := keptCell HD5.out k2
            have HGd : Hid (D5.drew.heap[V.heap.size]? = some (.cells #[.string (txt (2 + k) j), .int .i64 ((T k).F j).kind, .string ⟨#[]⟩] 113 (0, 0))) := HG5.out
            have hvl : V.heap.size < D5.drew.heap.size := lt_of_block HGd.out
            have E1 := Hid.intro e1
            have E2 := Hid.intro e2
            clear hkd q2 q3 hqq r0 r1 hvz hvc hKZ l0 l1 e0 e1 e2
            go_wp2_with fail
            go_region_law (go_simp; go_at_call 74; refine (HPL.out _ hbD).mono ?_; rintro e w9 ⟨rfl, hb9, hbV9⟩; have y1 := keptCell hbV9 E1.out; have y2 := keptCell hbV9 E2.out; have hg9 := (hb9.block _ hvl).trans HGd.out; have y3 : w9.cell? ⟨V.heap.size, 2, none⟩ = some (.string ⟨#[]⟩) := (by simp [World.cell?, hg9]); have y4 : w9.frozen? ⟨V.heap.size, 2, none⟩ = false := (by simp [World.frozen?, hg9]); have HV9 := Hid.intro hbV9; have HG9 := Hid.intro hg9; clear hb9 hbV9 hg9)
            all_goals (
              have hD6 : Below V.heap.size V (w9.setCell ⟨V.heap.size, 2, none⟩ (.string (txt 1 q))) := HV9.out.setCell (Nat.le_refl _) _
              have hG6 : (w9.setCell ⟨V.heap.size, 2, none⟩ (.string (txt 1 q))).heap[V.heap.size]? = some (.cells #[.string (txt (2 + k) j), .int .i64 ((T k).F j).kind, .string (txt 1 q)] 113 (0, 0)) := by rw [heap_setCell_same _ _ _ _ _ _ HG9.out]; rfl
              generalize w9.setCell ⟨V.heap.size, 2, none⟩ (.string (txt 1 q)) = D6 at *
              have HD6 := Hid.intro hD6
              have HG6 := Hid.intro hG6
              have HTY6 := HTY0
              clear hD6 hG6 u0 u1 u2 u3 y1 y2 y3 y4 hbD hvl d1
              have hx5 := blk_kept HD6.out HBXr.out
              have x1 : D6.cell? ⟨Y.heap.size, 1, none⟩ = some (.slice va (visJ txt k j).length vc) := by simp [World.cell?, hx5]
              have g0 : D6.cell? ⟨V.heap.size, 0, none⟩ = some (.string (txt (2 + k) j)) := by simp [World.cell?, HG6.out]
              have g1 : D6.cell? ⟨V.heap.size, 1, none⟩ = some (.int .i64 ((T k).F j).kind) := by simp [World.cell?, HG6.out]
              have g2 : D6.cell? ⟨V.heap.size, 2, none⟩ = some (.string (txt 1 q)) := by simp [World.cell?, HG6.out]
              have n0 := keptCell HD6.out k0
              have HO : Hid (Row (D6.alloc (Obj.cells #[.string (txt (2 + k) j), .int .i64 ((T k).F j).kind, .string (txt 1 q)] 113)) Y.heap.size 113 3 (.slice va (visJ txt k j).length vc) (visJ txt k j).length (fieldCell (fun q => mkF n T txt k ((visJ txt k j).getD q 0)))) := (HFX.out.kept HD6.out).kept (below1 _ _)
              have HX5 := Hid.intro hx5
              have hcl : (visJ txt k j).length ≤ 10 := by have := visJ_le txt k j; omega
              have hzd : Y.heap.size ≤ D6.heap.size := Nat.le_trans HW3.out.size HD6.out.size
              have HN5 := Hid.intro (HRow.out.kept HD6.out)
              have hxl : Y.heap.size < D6.heap.size := lt_of_block hx5
              have hfl5 : wr.heap.size < D6.heap.size := block_lt_of_cell n0
              have HD6Y : Hid (Below Y.heap.size Y D6) := HW3.out.trans (HD6.out.mono HW3.out.size)
              clear hx5
              go_wp2_with (at_builtin; refine wpList_append_any _ rfl _ _ 94 rfl Y.heap.size 113 iF _ 3 40 Tryz.underlying94 fi fz0 fz1 fz2 rfl (by decide) _ (visJ txt k j).length _ rfl HO.out (some ⟨D6.heap.size, 0, none⟩) 1 1 [.string (txt (2 + k) j), .int .i64 ((T k).F j).kind, .string (txt 1 q)] rfl rfl (alloc_news D6 #[.string (txt (2 + k) j), .int .i64 ((T k).F j).kind, .string (txt 1 q)] _) (fun h => by cases h) (by intro u hu; simp at hu; rcases hu with rfl | rfl | rfl <;> rfl) (by unfold maxLen; omega) (by omega) (by simp; omega) ?_)
              intro v6 w6 hown6 hg6 _
              have hx6 : w6.heap[Y.heap.size]? = some (.cells #[.string (txt 1 k), .slice va (visJ txt k j).length vc] 96 (0, 0)) := (hg6.block _ (by simp; omega) (fun e => HO.out.box_ne e.symm (((below1 D6 _).block _ hxl).trans HX5.out) (by decide) rfl)).trans (((below1 D6 _).block _ hxl).trans HX5.out)
              have y1 : w6.cell? ⟨Y.heap.size, 1, none⟩ = some (.slice va (visJ txt k j).length vc) := by simp [World.cell?, hx6]
              have y2 : w6.frozen? ⟨Y.heap.size, 1, none⟩ = false := by simp [World.frozen?, hx6]
              have HLJ : Hid ((visJ txt k j ++ [j]).length = (visJ txt k j).length + 1) := by unfold Hid; simp
              have hr6 : Row w6 Y.heap.size 113 3 v6 ((visJ txt k j).length + 1) (fieldCell (fun q => mkF n T txt k ((visJ txt k j ++ [j]).getD q 0))) := by have h := row_field_more (w := w6) (B := Y.heap.size) (v := v6) (l := visJ txt k j) (j := j) (M := mkF n T txt k) (by rw [HTY6.out]; exact hown6); rw [HLJ.out] at h; exact h
              obtain ⟨a6, c6, hv6, -⟩ := hr6.slice
              subst hv6
              have hn6 : Row w6 Y.heap.size 9 1 (.slice vn (visJ txt k j).length cn) (visJ txt k j).length (textCell (fun q => ((T k).F ((visJ txt k j).getD q 0)).name)) := (HN5.out.kept (below1 _ _)).grown hg6 (fun b hb => (HN5.out.kept (below1 _ _)).ne HO.out (by decide) hb)
              have hxl6 := lt_of_block hx6
              have m0 : w6.cell? ⟨wr.heap.size, 0, none⟩ = some (.string ((T k).F j).name) := hg6.cell (keptCell (below1 D6 _) n0) (fun e => absurd (HFXlt.out _ e.symm) (Nat.lt_irrefl _))
              have hneY : ¬ wr.heap.size = Y.heap.size := by omega
              have hneY2 : ¬ Y.heap.size = wr.heap.size := by omega
              have hset := heap_setCell_same w6 Y.heap.size 1 _ 96 (.slice a6 ((visJ txt k j).length + 1) c6) hx6
              have hst : ∀ {B' e sz m : Nat} {u : Value} {f : Nat → Value}, e ≠ 96 → Row w6 B' e sz u m f → Row (w6.setCell ⟨Y.heap.size, 1, none⟩ (.slice a6 ((visJ txt k j).length + 1) c6)) B' e sz u m f := fun he hr => hr.set_other (p := ⟨Y.heap.size, 1, none⟩) (fun e' => hr.box_ne e' hx6 he rfl) _
              have HR7 := Hid.intro (hst (by decide) hr6)
              have HN7 := Hid.intro (hst (by decide) hn6)
              have HX7 : Hid ((w6.setCell ⟨Y.heap.size, 1, none⟩ (.slice a6 ((visJ txt k j).length + 1) c6)).heap[Y.heap.size]? = some (.cells #[.string (txt 1 k), .slice a6 ((visJ txt k j).length + 1) c6] 96 (0, 0))) := by unfold Hid; rw [hset]; rfl
              have HB7 : Hid (Below Y.heap.size Y (w6.setCell ⟨Y.heap.size, 1, none⟩ (.slice a6 ((visJ txt k j).length + 1) c6))) := ((HD6Y.out.trans ((below1 D6 _).mono hzd)).grown hg6 (by simp; omega) (fun b hb => (HFX.out.lt hb).1)).setCell (Nat.le_refl _) _
              have hz6 : Y.heap.size ≤ w6.heap.size := by have := HB7.out.size; simpa using this
              have HO2 : Hid (Row ((w6.setCell ⟨Y.heap.size, 1, none⟩ (.slice a6 ((visJ txt k j).length + 1) c6)).alloc (Obj.cells #[.string ((T k).F j).name] 9)) Y.heap.size 9 1 (.slice vn (visJ txt k j).length cn) (visJ txt k j).length (textCell (fun q => ((T k).F ((visJ txt k j).getD q 0)).name))) := HN7.out.kept (below1 _ _)
              clear hown6 hg6 hr6 hn6 hst hset hx6 x1 g0 g1 g2 n0 HO
              go_wp2_with (at_builtin; refine wpList_append_any _ rfl _ _ 65 rfl Y.heap.size 9 is _ 1 16 Tryz.underlying65 si sz0 sz1 sz2 rfl (by decide) _ (visJ txt k j).length _ rfl HO2.out (some ⟨w6.heap.size, 0, none⟩) 1 1 [.string ((T k).F j).name] rfl rfl (fun ad had => alloc_news (w6.setCell ⟨Y.heap.size, 1, none⟩ (.slice a6 ((visJ txt k j).length + 1) c6)) #[.string ((T k).F j).name] _ ad (by simpa using had)) (fun h => by cases h) (by intro u hu; simp at hu; subst hu; rfl) (by unfold maxLen; omega) (by omega) (by simp; omega) ?_)
              intro v8 w8 hown8 hg8 _
              have HR8 := Hid.intro ((HR7.out.kept (below1 _ _)).grown hg8 (fun b hb => (HR7.out.kept (below1 _ _)).ne HO2.out (by decide) hb))
              have HN8 : Hid (Row w8 Y.heap.size 9 1 v8 ((visJ txt k j).length + 1) (textCell (fun q => ((T k).F ((visJ txt k j ++ [j]).getD q 0)).name))) := by have h := row_text_more (w := w8) (B := Y.heap.size) (v := v8) (l := visJ txt k j) (j := j) (M := fun q => ((T k).F q).name) (by rw [Nat.mul_one]; exact hown8); rw [HLJ.out] at h; exact h
              have HX8 : Hid (w8.heap[Y.heap.size]? = some (.cells #[.string (txt 1 k), .slice a6 ((visJ txt k j).length + 1) c6] 96 (0, 0))) := (hg8.block _ (by simp; omega) (fun e => HO2.out.box_ne e.symm (((below1 _ _).block _ (by simp; omega)).trans HX7.out) (by decide) rfl)).trans (((below1 _ _).block _ (by simp; omega)).trans HX7.out)
              have HB8 : Hid (Below Y.heap.size Y w8) := (HB7.out.trans ((below1 _ _).mono (by simpa using hz6))).grown hg8 (by simp; omega) (fun b hb => (HRow.out.lt hb).1)
              clear hown8 hg8 y1 y2 m0
              go_wp2_with fail
              go_roundw
              case rel => exact ⟨j + 1, by omega, by go_num, HB8.out, by rw [HVY.out, HLJ.out]; exact HN8.out, _, HX8.out, by rw [HVY.out, HLJ.out]; exact HR8.out⟩
              case measure => simp [intOf]; omega)
        · have hjn : j = (T k).nf := by omega
          rw [hjn] at hrow hfx
          have hrow' : Row wr Y.heap.size 9 1 _ (visL T txt k).length (textCell (fun q => ((T k).F ((visL T txt k).getD q 0)).name)) := hrow
          have hfx' : Row wr Y.heap.size 113 3 fx (visL T txt k).length (fieldCell (fun q => mkF n T txt k ((visL T txt k).getD q 0))) := hfx
          obtain ⟨vn, cn, hvn, -⟩ := hrow'.slice
          subst hvn
          obtain ⟨va, vc, hvx, hvc⟩ := hfx'.slice
          subst hvx
          obtain ⟨ao, co, hvo, -⟩ := HRT.out.slice
          obtain ⟨aw, cw, hvw, -⟩ := HRN.out.slice
          subst hvo hvw
          have x0 : wr.cell? ⟨Y.heap.size, 0, none⟩ = some (.string (txt 1 k)) := by simp [World.cell?, hbx]
          have x1 : wr.cell? ⟨Y.heap.size, 1, none⟩ = some (.slice va (visL T txt k).length vc) := by simp [World.cell?, hbx]
          obtain ⟨iT, ti, tz0, tz1, tz2⟩ := info_parts' Tryz.info96
          obtain ⟨iS, ui, uz0, uz1, uz2⟩ := info_parts' Tryz.info65
          have HB3 := Hid.intro hw3
          have HN3 := Hid.intro hrow'
          have HF3 := Hid.intro hfx'
          have HO1 : Hid (Row (wr.alloc (Obj.cells #[.string (txt 1 k), .slice va (visL T txt k).length vc] 96)) w.heap.size 96 2 (.slice ao k co) k (typeCell (typR n T txt A Cp))) := (HRT.out.kept hw3).kept (below1 _ _)
          have HNO := Hid.intro (HRN.out.kept hw3)
          have hzY : w.heap.size ≤ Y.heap.size := HWY.out.size
          have hz3 : Y.heap.size ≤ wr.heap.size := hw3.size
          have hcl : (visL T txt k).length ≤ 10 := by have := visJ_le txt k (T k).nf; have : (visL T txt k).length ≤ (T k).nf := this; omega
          clear hrow hfx hrow' hfx' hw3 hbx hjn
          go_wp2_with (at_builtin; refine wpList_append_any _ rfl _ _ 77 rfl w.heap.size 96 iT _ 2 40 Tryz.underlying77 ti tz0 tz1 tz2 rfl (by decide) _ k _ rfl HO1.out (some ⟨wr.heap.size, 0, none⟩) 1 1 [.string (txt 1 k), .slice va (visL T txt k).length vc] rfl rfl (alloc_news wr #[.string (txt 1 k), .slice va (visL T txt k).length vc] _) (fun h => by cases h) (by intro u hu; simp at hu; rcases hu with rfl | rfl <;> rfl) (by unfold maxLen; omega) (by omega) (by simp; omega) ?_)
          intro v6 w6 hown6 hg6 _
          have HO2 : Hid (Row (w6.alloc (Obj.cells #[.slice vn (visL T txt k).length cn] 65)) w.heap.size 65 1 (.slice aw k cw) k NV) := ((HNO.out.kept (below1 _ _)).grown hg6 (fun b e => (HNO.out.kept (below1 _ _)).ne HO1.out (by decide) e)).kept (below1 _ _)
          have hz6 : wr.heap.size ≤ w6.heap.size := by have := hg6.size; simp at this; omega
          have HG6 := Hid.intro hg6
          have HW6 := Hid.intro hown6
          have HB6 : Hid (Below w.heap.size w w6) := ((HWY.out.trans (HB3.out.mono hzY)).trans ((below1 wr _).mono (by omega))).grown hg6 (by simp; omega) (fun b hb => (HRT.out.lt hb).1)
          clear hown6 hg6
          go_wp2_with (at_builtin; refine wpList_append_any _ rfl _ _ 105 rfl w.heap.size 65 iS _ 1 24 Tryz.underlying105 ui uz0 uz1 uz2 rfl (by decide) _ k _ rfl HO2.out (some ⟨w6.heap.size, 0, none⟩) 1 1 [.slice vn (visL T txt k).length cn] rfl rfl (alloc_news w6 #[.slice vn (visL T txt k).length cn] _) (fun h => by cases h) (by intro u hu; simp at hu; subst hu; rfl) (by unfold maxLen; omega) (by omega) (by simp; omega) ?_)
          intro v8 w8 hown8 hg8 _
          have HST := Hid.intro (typR_step hzY HB3.out HRT.out HRN.out HRS.out hvc HF3.out HN3.out HG6.out HW6.out hg8 (by rw [Nat.mul_one]; exact hown8))
          have HB8 : Hid (Below w.heap.size w w8) := (HB6.out.trans ((below1 w6 _).mono (by omega))).grown hg8 (by simp; omega) (fun b hb => (HRN.out.lt hb).1)
          clear hown8 hg8 x0 x1
          go_wp2_with fail
          go_roundw
          case rel => exact ⟨k + 1, by omega, by go_num, HB8.out, HST.out⟩
          case measure => simp [intOf]; omega
    · have hkn : k = n := by omega
      subst hkn
      obtain ⟨a3, c3, hv3, -⟩ := hrN.slice
      subst hv3
      obtain ⟨a2, c2, hv2, hc2, hT2⟩ := owns_types (T := typR k T txt A Cp) hrT (by unfold maxLen; omega) (fun i hi => by
        obtain ⟨q1, q2, -⟩ := hrs i hi
        have hgl : ∀ q, q < (visL T txt i).length → GoodF (mkF k T txt i ((visL T txt i).getD q 0)) := fun q hq => by
          obtain ⟨v1, -⟩ := vis_at hq
          have hlen : initLen k T (2 + i) = (T i).nf := by unfold initLen; rw [if_neg (by omega), show 2 + i - 2 = i by omega]
          refine ⟨HS.out.good (2 + i) (by omega) _ (by rw [hlen]; exact v1), ?_, HKW.out i hi _ v1⟩
          unfold mkF
          by_cases hk1 : ((T i).F ((visL T txt i).getD q 0)).kind = 1
          · simp only [hk1, if_pos]; exact Nat.zero_le _
          · simp only [hk1, if_false]
            exact HS.out.good 1 (by omega) _ (own_find HR.out H0.out hi v1 hk1).1
        obtain ⟨a6, c6, e6, -, hFA⟩ := q2.fieldsAt (by unfold maxLen; have h1 := visJ_le txt i (T i).nf; have h2 : (visL T txt i).length ≤ (T i).nf := h1; have := (HR.out.fld i hi).few; have h3 : (T i).nf ≤ 10 := this; omega) hgl
        cases e6
        exact ⟨q1, HS.out.good 1 (by omega) i hi, hFA⟩)
      subst hv2
      have HW := Hid.intro hw
      have HT2 := Hid.intro hT2
      have HN2 := Hid.intro hrN
      have HR2 := Hid.intro hrs
      have HRTf := Hid.intro hrT
      clear hw hT2 hrN hrs hrT
      go_wp2_with fail
      exact bodyPost_ret (v := .tuple #[.slice a2 k c2, .slice a3 k c3]) (by simp [results, Tryz.results40, go_sem]) rfl ⟨⟨a2, c2, a3, c3, A, Cp, NV, rfl, hc2, HT2.out, HN2.out, fun i hi => (HR2.out i hi).2.2, HRTf.out, fun i hi => (HR2.out i hi).2.1⟩, HW.out⟩
end Go.Proofs.YtjjggefmmeminabGreat
