import Derived.Test.YtikiadefdcfdkabMnPick
/-
  The contracts of mean.getter and of the function that it answers: what picks get of a key, if that is there.
-/
namespace Go.Proofs.Ytikiadefdcfdkab
open Go.RowKit Go.Sort Go.PlainAid

theorem Try.e82 : ∀ args w, (callFunc 82 args).run Try.prog w = .ok (.enter 82 args) w := enters_of Try.func82 (by kernel_rfl) rfl

/-- A row of functions, one a pick, whatever becomes of the blocks of X. -/
structure FRow (X : Nat → Prop) (base : Nat) {d : Nat} (w : World) (v : Value) (n : Nat) (fv : Nat → Value) (f : Nat → ByteArray → Got (d + 1)) : Prop where
  row : Row w base 150 1 v n fv
  fn : ∀ i, i < n → PickFn (fun q => X q ∨ v.ownBlock = some q) w (fv i) d (f i)
theorem FRow.nil (X : Nat → Prop) (base d : Nat) (w : World) (fv : Nat → Value) (f : Nat → ByteArray → Got (d + 1)) : FRow X base w (.slice none 0 0) 0 fv f := ⟨⟨rfl, .inl ⟨rfl, rfl⟩⟩, fun _ hi => absurd hi (Nat.not_lt_zero _)⟩
theorem FRow.kept {X : Nat → Prop} {base d n : Nat} {w w' : World} {v : Value} {fv : Nat → Value} {f : Nat → ByteArray → Got (d + 1)} (h : FRow X base w v n fv f) (hB : Below w.heap.size w w') : FRow X base w' v n fv f := ⟨h.row.kept hB, fun i hi => (h.fn i hi).kept hB⟩
theorem FRow.more {X : Nat → Prop} {base d k ec be N0 : Nat} {ea : Option Addr} {w w' : World} {v' : Value} {fv : Nat → Value} {f : Nat → ByteArray → Got (d + 1)} {g : ByteArray → Got (d + 1)} (h : FRow X base w (.slice ea k ec) k fv f) (ce : w.heap[be]? = some (.cells #[.slice ea k ec] 149 (0, 0)))
    (hr : R6 w N0 d g base k fv (.slice ea k ec) v' w') (hXb : X be) (hX : ∀ q, X q → mid N0 w.heap.size q) (hb : N0 ≤ base) :
    (∃ fv', FRow X base (w'.setCell ⟨be, 0, none⟩ v') v' (k + 1) fv' (fun i => if i = k then g else f i)) ∧ (w'.setCell ⟨be, 0, none⟩ v').heap[be]? = some (.cells #[v'] 149 (0, 0)) ∧ (∃ a' c', v' = .slice a' (k + 1) c') ∧ KeepX (fun q => q = be ∨ base ≤ q) w (w'.setCell ⟨be, 0, none⟩ v') := by
  obtain ⟨Y, nv, r1, r2, r3, r4, r5⟩ := hr
  have hbe : be < w.heap.size := lt_of_block ce
  have hob : ∀ q, (Value.slice ea k ec).ownBlock = some q → base ≤ q ∧ q < w.heap.size := fun q hq => h.row.lt hq
  have hne : (Value.slice ea k ec).ownBlock ≠ some be := fun e => by
    obtain ⟨cs, ho⟩ := h.row.obj e
    rw [ce] at ho
    simp at ho
  have cw : w'.heap[be]? = some (.cells #[.slice ea k ec] 149 (0, 0)) := by rw [r4.block be (Nat.lt_of_lt_of_le hbe r1.size) (Ne.symm hne), r1.block be hbe]; exact ce
  have row' : Row w' base 150 1 v' (k + 1) (fun i => if i = k then nv else fv i) := by
    unfold Row
    have e : (List.range ((k + 1) * 1)).map (fun i => if i = k then nv else fv i) = (List.range (k * 1)).map fv ++ [nv] := by
      rw [Nat.mul_one, Nat.mul_one, List.range_succ, List.map_append]
      simp only [List.map_cons, List.map_nil, if_true]
      rw [range_map_congr fun j hj => if_neg (by omega : ¬ j = k)]
    rw [e]; exact r3
  have hne' : v'.ownBlock ≠ some be := fun e => by
    obtain ⟨cs, ho⟩ := row'.obj e
    rw [cw] at ho
    simp at ho
  have hkeep : ∀ q, q < w.heap.size → q ≠ be → (Value.slice ea k ec).ownBlock ≠ some q → (w'.setCell ⟨be, 0, none⟩ v').heap[q]? = w.heap[q]? := fun q hq h1 h2 => by
    rw [Below.heap_setCell _ _ _ _ h1, r4.block q (Nat.lt_of_lt_of_le hq r1.size) (Ne.symm h2), r1.block q hq]
  have hos : (w'.setCell ⟨be, 0, none⟩ v').os = w.os ∧ (w'.setCell ⟨be, 0, none⟩ v').tape = w.tape ∧ (w'.setCell ⟨be, 0, none⟩ v').output = w.output ∧ w.heap.size ≤ (w'.setCell ⟨be, 0, none⟩ v').heap.size := ⟨r4.os.trans r1.os, r4.tape.trans r1.tape, r4.output.trans r1.output, by simpa using Nat.le_trans r1.size r4.size⟩
  refine ⟨⟨_, row'.set_other hne' _, fun i hi => ?_⟩, heap_setCell_same _ be 0 _ 149 _ cw, owned_slice r3, ⟨hos.1, hos.2.1, hos.2.2.1, hos.2.2.2, fun q hq => hkeep q hq.1 (fun e => hq.2 (.inl e)) (fun e => hq.2 (.inr (hob q e).1))⟩⟩
  by_cases hik : i = k
  · rw [if_pos hik, if_pos hik]
    refine r2.step ⟨r4.os, r4.tape, r4.output, by simpa using r4.size, fun q hq => ?_⟩ fun q hq hy => ?_
    · have h1 : q ≠ be := fun e => hq.2 (by rw [e]; exact hX be hXb)
      rw [Below.heap_setCell _ _ _ _ h1, r4.block q hq.1 (fun e => hq.2 ⟨Nat.le_trans hb (hob q e.symm).1, (hob q e.symm).2⟩)]
    · rcases hy with hy | hy
      · exact hX q hy
      · rcases r5 with e | e
        · rw [e] at hy; exact ⟨Nat.le_trans hb (hob q hy).1, (hob q hy).2⟩
        · rw [e] at hy; cases hy; omega
  · rw [if_neg hik, if_neg hik]
    refine (h.fn i (by omega)).step ⟨hos.1, hos.2.1, hos.2.2.1, hos.2.2.2, fun q hq => hkeep q hq.1 (fun e => hq.2 (.inl (by rw [e]; exact hXb))) (fun e => hq.2 (.inr e))⟩ fun q hq hy => ?_
    rcases hy with hy | hy
    · exact .inl hy
    · rcases r5 with e | e
      · exact .inr (by rw [← e]; exact hy)
      · rw [e] at hy
        cases hy
        have := r1.size
        omega
theorem take_map {α β : Type} (f : α → β) (l : List α) (k : Nat) (h : k < l.length) : (l.map f).take (k + 1) = (l.map f).take k ++ [f l[k]] := by
  rw [List.take_succ_eq_append_getElem (by simpa using h), List.getElem_map]

set_option maxRecDepth 100000 in
set_option maxHeartbeats 2000000 in
theorem getter1_any (d n : Nat) (V : Nat → LServ) (L : List PPart) (pa : Option Addr) (pn pc : Nat) (vv : Value) (bw bp be base hc ec : Nat) (ha9 ea : Option Addr) (p : PPart) (ps : List (Pick (d + 1))) (fv : Nat → Value) (key : ByteArray) (w : World)
    (hE : Env w (.slice pa pn pc) vv n V L) (w0 : w.cell? ⟨bw, 0, none⟩ = some (.slice pa pn pc)) (w1 : w.cell? ⟨bw, 1, none⟩ = some vv) (p3 : w.cell? ⟨bp, 3, none⟩ = some (.slice ha9 p.hs.length hc)) (ce : w.cell? ⟨be, 0, none⟩ = some (.slice ea ps.length ec))
    (hH : OwnersAt w ha9 p.hs.length (hsN p)) (hR : PartR n V p) (hF : FRow noB base w (.slice ea ps.length ec) ps.length fv (fun i key => gotK V L (gots V L d) p key (pickN ps i))) (hps : ps.length ≤ 60) (hks : Small key) :
    Calls Try.prog 82 #[.string key, .pointer (some ⟨bw, 0, none⟩), .pointer (some ⟨bp, 0, none⟩), .pointer (some ⟨be, 0, none⟩)] w fun e w' => Below w.heap.size w w' ∧
      GetEnd w.heap.size (d + 1) (if thereP V p key = true then some (gots V L (d + 1) p key ps) else none) e w' := by
  obtain ⟨i0, hi0, hz0, hz1, hz2⟩ := info_parts' Try.info66
  obtain ⟨bm, bl, hvv, -⟩ := hE.vals
  subst hvv
  have hcl := mthere_any n V L pa pn pc (findV bm bl) p ha9 hc key w hE hH hR hks
  unfold findV at w1 hcl
  have HF := Hid.intro hF
  have HCE := Hid.intro ce
  clear hE hH hR hF ce
  obtain ⟨r, hr⟩ : ∃ r, r = if thereP V p key = true then some (gots V L (d + 1) p key ps) else none := ⟨_, rfl⟩
  rw [← hr]
  obtain ⟨G, hG⟩ : ∃ G, G = gots V L (d + 1) p key ps := ⟨_, rfl⟩
  rw [← hG] at hr
  have HGL : Hid (G.length = ps.length) := Hid.intro (by rw [hG, gots_len])
  have HGT : Hid (∀ k, k < ps.length → G.take (k + 1) = G.take k ++ [gotK V L (gots V L d) p key (pickN ps k)]) := Hid.intro fun k hk => by rw [hG, gots_succ, take_map _ _ _ hk, pickN_get hk]
  clear hG
  generalize thereP V p key = t at *
  have HRR := Hid.intro hr
  clear hr
  go_enter Try.func82, Try.ntmps82
  go_wp2_with fail
  refine hcl.mono ?_
  clear hcl
  rintro e w2 ⟨rfl, hw2⟩
  cases t with
  | false =>
    have HR0 : Hid (r = none) := Hid.intro (by rw [HRR.out]; rfl)
    clear HF HCE HGT HGL w0 w1 p3 HRR
    go_wp2_with fail
    exact bodyPost_ret (v := .tuple #[.slice none 0 0, .bool false]) (by simp [results, Try.results82, go_sem]) rfl ⟨hw2, .inl ⟨HR0.out, rfl⟩⟩
  | true =>
    have HR0 : Hid (r = some G) := Hid.intro (by rw [HRR.out]; rfl)
    have ce := keptCell hw2 HCE.out
    have HF2 := Hid.intro (HF.out.kept hw2)
    have HW2 := Hid.intro hw2
    clear HF HCE w0 w1 p3 hw2 HRR
    go_wp2_with fail
    clear ce
    go_loopw [7, 18] (fun v i wr => ∃ k : Nat, k ≤ ps.length ∧ i = .int .i64 k ∧ Below w2.heap.size w2 wr ∧ ∃ av sv, GRow w2.heap.size wr v (G.take k) av sv) (fun _ i _ => ps.length - (intOf i).toNat)
    case atStart => exact ⟨0, Nat.zero_le _, rfl, Below.refl _ _, fun _ => undef, fun _ => undef, GRow.nil _ _ _ _ _⟩
    case round =>
      obtain ⟨k, hk, rfl, hw, av, sv, hS⟩ := hrel
      obtain ⟨S, hSd⟩ : ∃ S, S = G.take k := ⟨_, rfl⟩
      rw [← hSd] at hS
      obtain ⟨va, vc, rfl, hvc⟩ := hS.slice
      by_cases hlt : k < ps.length
      · have hFk := HF2.out.kept hw
        have hrow := hFk.row
        obtain ⟨ge, cp, hea, -, -⟩ : ∃ g cap, Value.slice ea ps.length ec = .slice (some ⟨g, 0, none⟩) ps.length cap ∧ True ∧ True := by
          rcases hrow.shape with ⟨-, h0⟩ | ⟨g, cap, hv, -, -, -⟩
          · omega
          · exact ⟨g, cap, hv, trivial, trivial⟩
        cases hea
        have c0 := hrow.cell (j := k) (by omega)
        obtain ⟨KF, caps, ⟨hfk, eK⟩, hfc⟩ := hFk.fn k hlt
        rw [hfk] at c0
        have hlt' : (k : Int) < (ps.length : Int) := by omega
        have hk0 : (0 : Int) ≤ (k : Int) := by omega
        have hSl : S.length ≤ k := by rw [hSd, List.length_take]; omega
        have HT : Hid (G.take (k + 1) = S ++ [gotK V L (gots V L d) p key (pickN ps k)]) := Hid.intro (by rw [HGT.out k hlt, ← hSd])
        have hcl : Calls Try.prog KF (#[.string key] ++ caps) wr fun e w' => Below wr.heap.size wr w' ∧ ∃ A C A2 C2, e = .returned (gotA (gotK V L (gots V L d) p key (pickN ps k)) A C A2 C2) ∧ GotV (fun q => q < wr.heap.size) w' (gotK V L (gots V L d) p key (pickN ps k)) A C A2 C2 := hfc wr (KeepX.refl _ _) key hks
        have HS := Hid.intro hS
        clear hS hSd hfc hrow hFk hfk
        generalize gotK V L (gots V L d) p key (pickN ps k) = gg at *
        go_wp2_with fail
        refine hcl.mono ?_
        clear hcl
        rintro e w3 ⟨hw3, A, C, A2, C2, rfl, hgv⟩
        unfold gotA
        have hw4 : Below w2.heap.size w2 w3 := hw.trans (hw3.mono hw.size)
        have HR := Hid.intro ((HS.out.kept hw3).kept (below1 w3 (Obj.cells #[.string (gName gg), .int .i64 (gKind gg), .bool (gNull gg), .string (gText gg), .slice A (gSub gg).length C, .slice A2 (gSubs gg).length C2] 66)))
        have HGV := Hid.intro (hgv.kept (below1 w3 (Obj.cells #[.string (gName gg), .int .i64 (gKind gg), .bool (gNull gg), .string (gText gg), .slice A (gSub gg).length C, .slice A2 (gSubs gg).length C2] 66)))
        have HW4 : Hid (Below w2.heap.size w2 (w3.alloc (Obj.cells #[.string (gName gg), .int .i64 (gKind gg), .bool (gNull gg), .string (gText gg), .slice A (gSub gg).length C, .slice A2 (gSubs gg).length C2] 66))) := Hid.intro (hw4.trans ((below1 w3 _).mono hw4.size))
        have HOW := Hid.intro HR.out.row
        have hNw : w2.heap.size ≤ wr.heap.size := hw.size
        have hNa : w2.heap.size ≤ (w3.alloc (Obj.cells #[.string (gName gg), .int .i64 (gKind gg), .bool (gNull gg), .string (gText gg), .slice A (gSub gg).length C, .slice A2 (gSubs gg).length C2] 66)).heap.size := HW4.out.size
        have HVB : Hid (∀ q, (Value.slice va S.length vc).ownBlock = some q → q < wr.heap.size ∧ w2.heap.size ≤ q) := Hid.intro fun q hq => ⟨(HS.out.row.lt hq).2, (HS.out.row.lt hq).1⟩
        clear hw3 hw4 HS hgv c0
        go_wp2_with (at_builtin; refine wpList_append_any _ rfl _ _ 57 rfl w2.heap.size 66 i0 _ 6 96 Try.underlying57 hi0 hz0 hz1 hz2 rfl (by decide) _ S.length _ rfl HOW.out (some ⟨w3.heap.size, 0, none⟩) 1 1 (gotL gg (.slice A (gSub gg).length C) (.slice A2 (gSubs gg).length C2)) rfl rfl (alloc_news w3 #[.string (gName gg), .int .i64 (gKind gg), .bool (gNull gg), .string (gText gg), .slice A (gSub gg).length C, .slice A2 (gSubs gg).length C2] _) (fun h => by cases h) (by intro u hu; simp [gotL] at hu; rcases hu with rfl | rfl | rfl | rfl | rfl | rfl <;> rfl) (by unfold maxLen; omega) (by omega) hNa ?_)
        intro v' w5 hown hgr hvb
        have HS5 : Hid (∃ av' sv', GRow w2.heap.size w5 v' (G.take (k + 1)) av' sv') := Hid.intro (by
          rw [HT.out]
          exact ⟨_, _, HR.out.app HGV.out hNw (fun q hq => (HVB.out q hq).1) hown hgr (by simpa using hvb)⟩)
        have HW5 : Hid (Below w2.heap.size w2 w5) := Hid.intro (HW4.out.grown hgr hNa (fun q hq => (HVB.out q hq).2))
        clear hown hgr hvb HOW HR HGV HVB
        go_wp2_with fail
        go_roundw
        case rel => exact ⟨k + 1, by omega, by go_num, HW5.out, HS5.out⟩
        case measure => simp [intOf]; omega
      · have hkn : k = ps.length := by omega
        have hSG : S = G := by rw [hSd, hkn, ← HGL.out, List.take_length]
        have HFin : Hid (GotsOut w.heap.size (d + 1) wr va vc S) := Hid.intro ⟨by rw [hSG, HGL.out]; unfold maxLen; omega, av, sv, hS.base HW2.out.size⟩
        have HWF : Hid (Below w.heap.size w wr) := Hid.intro (HW2.out.trans (hw.mono HW2.out.size))
        have HSG := Hid.intro hSG
        clear hS hw hSd hSG
        go_wp2_with fail
        exact bodyPost_ret (v := .tuple #[.slice va S.length vc, .bool true]) (by simp [results, Try.results82, go_sem]) rfl ⟨HWF.out, .inr ⟨S, va, vc, by rw [HR0.out, HSG.out], rfl, hvc, HFin.out⟩⟩
end Go.Proofs.Ytikiadefdcfdkab
