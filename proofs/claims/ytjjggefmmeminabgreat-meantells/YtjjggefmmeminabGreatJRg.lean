/- Joined: RgThere, RgRow, RgKeys, RgVals, RgOne, RgApp, RgGet. -/
import Derived.Test.YtjjggefmmeminabGreatRgReg
import Derived.Test.YtjjggefmmeminabGreatJRe
import Derived.Deep.CutRange
import Derived.Test.YtjjggefmmeminabGreatMnOut
import Derived.Test.YtjjggefmmeminabGreatRmWrong
import Derived.Test.YtjjggefmmeminabGreatRyCalled
import Derived.Test.YtjjggefmmeminabGreatJBase
import Derived.Deep.CutBlock
/-
  The contract of the reference's There: is a thing in one of a part's homes?
-/
namespace Go.Proofs.YtjjggefmmeminabGreat
open Go.RowKit Go.Sort Go.PlainAid

/-- Where a service's thing lies. -/
def tpO (s : LServ) (ty key : ByteArray) : Option Addr := if idx s.nx (sameThing s.X ty key) < 0 then none else s.xa.map fun ad => ⟨ad.block, ad.off + (idx s.nx (sameThing s.X ty key)).toNat * 3, none⟩
theorem tpO_ptr (s : LServ) (ty key : ByteArray) : thingPtr s.xa s.nx s.X ty key = .pointer (tpO s ty key) := by unfold thingPtr tpO; split <;> rfl
theorem tpO_some {w : World} {s : LServ} {ty key : ByteArray} (h : ThingsAt w s.xa s.nx s.X) : (tpO s ty key).isSome = hasT s ty key := by
  unfold tpO hasT
  rcases idx_cases s.nx (sameThing s.X ty key) with ⟨e, -⟩ | ⟨k, hk, e, -, -⟩
  · rw [e]; rfl
  · obtain ⟨b, o, ha, -⟩ := h.2 k hk
    rw [e, ha, if_neg (by omega)]
    simp
theorem tpO_at {w : World} {s : LServ} {ty key : ByteArray} (h : ThingsAt w s.xa s.nx s.X) (hh : hasT s ty key = true) : ∃ b o, tpO s ty key = some ⟨b, o, none⟩ ∧ ThingAt w b o (thingT s ty key) := by
  obtain ⟨i, hi, e, et, -, -⟩ := hasT_iff hh
  obtain ⟨b, o, ha, hx⟩ := h.2 i hi
  refine ⟨b, o + i * 3, ?_, by rw [et]; exact hx⟩
  unfold tpO
  rw [e, ha, if_neg (by omega), Int.toNat_natCast]
  rfl

set_option maxRecDepth 100000 in
set_option maxHeartbeats 1000000 in
theorem rthere_any (la : Option Addr) (n lcap : Nat) (V : Nat → LServ) (p : PPart) (g o : Nat) (fa oa ha : Option Addr) (fc oc hc : Nat) (key : ByteArray) (w : World) (hS : ServsAt w la n V) (hP : PtAt w g o p fa oa ha fc oc hc) (hR : PartR n V p) :
    Calls Tryz.prog 20 #[.slice la n lcap, .pointer (some ⟨g, o, none⟩), .string key] w fun e w' => e = .returned (.bool (thereP V p key)) ∧ Below w.heap.size w w' := by
  have c3 := hP.c3
  have hn : p.hs.length ≤ 9223372036854775807 := hP.homes.1
  rw [← there_idx]
  have HS := Hid.intro hS
  have HH := Hid.intro hP.homes
  have HR := Hid.intro hR.homes
  clear hS hP hR
  obtain ⟨q, hq⟩ : ∃ q : Nat → Bool, q = fun i => hasT (V (hsN p i).svc.toNat) (hsN p i).type key := ⟨_, rfl⟩
  rw [← hq]
  have HQ := Hid.intro hq
  clear hq
  go_enter Tryz.func20, Tryz.ntmps20
  go_wp2_with fail
  go_loopw [14] (fun i wr => ∃ k : Nat, k ≤ p.hs.length ∧ i = .int .i64 k ∧ Hid (∀ j, j < k → q j = false) ∧ Below w.heap.size w wr) (fun i _ => p.hs.length - (intOf i).toNat)
  case atStart => exact ⟨0, Nat.zero_le _, rfl, (fun j hj => absurd hj (Nat.not_lt_zero _)), Below.refl _ _⟩
  case round =>
    obtain ⟨k, hk, rfl, hb, hw⟩ := hrel
    by_cases hlt : k < p.hs.length
    · obtain ⟨b, o', rfl, k0, k1, k2, -⟩ := (HH.out.kept hw).2 k hlt
      obtain ⟨s, hs, hsn⟩ := HR.out k hlt
      have hqk : q k = hasT (V s) (hsN p k).type key := by rw [HQ.out]; show hasT (V (hsN p k).svc.toNat) _ _ = _; rw [hs, Int.toNat_natCast]
      have hlt' : (k : Int) < (p.hs.length : Int) := by omega
      have hk0 : (0 : Int) ≤ (k : Int) := by omega
      rw [hs] at k0
      generalize hX : wr.alloc (Obj.cells #[.int .i64 (s : Int), .string (hsN p k).type, .string (hsN p k).field] 92) = X1
      have hBX : Below wr.heap.size wr X1 := by rw [← hX]; exact below1 _ _
      have HX0 : Hid (X1.cell? ⟨wr.heap.size, 0, none⟩ = some (.int .i64 (s : Int))) := Hid.intro (by rw [← hX, World.cell?_alloc_at _ _ _ _ rfl]; rfl)
      have HX1 : Hid (X1.cell? ⟨wr.heap.size, 1, none⟩ = some (.string (hsN p k).type)) := Hid.intro (by rw [← hX, World.cell?_alloc_at _ _ _ _ rfl]; rfl)
      have hXw : Below w.heap.size w X1 := hw.trans (hBX.mono hw.size)
      obtain ⟨bs, os, hla, hsv⟩ := (HS.out.kept hXw).2 s hsn
      subst hla
      have HSV := Hid.intro hsv
      have HXw := Hid.intro hXw
      have HQK := Hid.intro hqk
      clear hw hBX hXw hsv hqk
      go_upto_region 4 with fail
      clear hX k0 k1 k2
      refine thereThing (bo := wr.heap.size) (s := s) (tp := tpO (V s) (hsN p k).type key) (by kernel_rfl) rfl rfl rfl hsn HX0.out HX1.out HSV.out.c2 (fun w1 h1 => ?_) ?_
      · have := refThing_any (V s).xa (V s).nx (V s).xcap (V s).X (hsN p k).type key w1 (HSV.out.ok.things.kept h1)
        rw [tpO_ptr] at this
        exact this
      intro st w' hB' hs28
      rw [tpO_some HSV.out.ok.things, ← HQK.out] at hs28
      have hw2 : Hid (Below w.heap.size w w') := Hid.intro (HXw.out.trans (hB'.mono HXw.out.size))
      clear hB' HXw HSV HX0 HX1
      simp only [putAll, Act.put, List.setIfInBounds_toArray, List.set_cons_succ, List.set_cons_zero, hs28]
      generalize st 18 = t18
      generalize st 19 = t19
      generalize st 20 = t20
      generalize st 21 = t21
      generalize st 22 = t22
      generalize st 23 = t23
      generalize st 24 = t24
      generalize st 25 = t25
      generalize st 26 = t26
      generalize st 27 = t27
      cases hpk : q k with
      | true =>
        have hfin : Hid (idx p.hs.length q = (k : Int)) := idx_hit hlt hpk hb
        clear hpk hs28
        go_wp2_with fail
        go_ret
        exact ⟨by rw [hfin.out, decide_eq_true hk0]; rfl, hw2.out⟩
      | false =>
        have hb2 : Hid (∀ j, j < k + 1 → q j = false) := fun j hj => by
          rcases Nat.lt_succ_iff_lt_or_eq.1 hj with h | h
          · exact hb j h
          · rw [h]; exact hpk
        clear hpk hs28
        go_wp2_with fail
        go_roundw
        case rel => exact ⟨k + 1, by omega, by go_num, hb2, hw2.out⟩
        case measure => simp [intOf]; omega
    · have hfin : Hid (idx p.hs.length q = -1) := idx_none (fun j hj => hb j (by omega))
      go_wp2_with fail
      go_ret
      exact ⟨by rw [hfin.out]; rfl, hw⟩
end Go.Proofs.YtjjggefmmeminabGreat

/-
  What the reference's Get stands on; a row of what is got that grows behind a box.
-/
namespace Go.Proofs.YtjjggefmmeminabGreat
open Go.RowKit Go.Sort Go.PlainAid

/-- What Get promises, at this depth. -/
def RGetOk (la : Option Addr) (n lcap : Nat) (V : Nat → LServ) (L : List PPart) (pa : Option Addr) (pn pc d : Nat) : Prop := ∀ (Z : Nat → Prop) (rv : Nat → Nat → Value) (g : Nat) (typ key : ByteArray) (a : Option Addr) (cap : Nat) (ps : List (Pick d)) (w : World),
  ServsAt w la n V → Parts Z w (.slice pa pn pc) L rv → pa = some ⟨g, 0, none⟩ → ps ≠ [] → ¬ partIdx L.length (lpOf L) typ < 0 → cR L.length (lpOf L) d (pOf L typ).fs.length (fsN (pOf L typ)) [] ps = 0 → Sm d ps → PicksAt w d a ps →
  Calls Tryz.prog 21 #[.slice la n lcap, .slice pa pn pc, .pointer (some ⟨g, (mfind L typ).toNat * 4, none⟩), .string key, .slice a ps.length cap] w fun e w' => (∃ va vc, e = .returned (.slice va (gots V L d (pOf L typ) key ps).length vc) ∧ (gots V L d (pOf L typ) key ps).length ≤ vc ∧ GotsOut w.heap.size d w' va vc (gots V L d (pOf L typ) key ps)) ∧ Below w.heap.size w w'
/-- What stands fast while a pick is got. -/
structure GE (w0 : World) (la : Option Addr) (n lcap : Nat) (V : Nat → LServ) (L : List PPart) (pa : Option Addr) (pn pc d : Nat) (aa : Option Addr) (ps : List (Pick d)) (fty : ByteArray) (kd : Int) : Prop where
  servs : ServsAt w0 la n V
  parts : ∃ Z rv, Parts Z w0 (.slice pa pn pc) L rv
  picks : PicksAt w0 d aa ps
  get : RGetOk la n lcap V L pa pn pc d
  right : ∀ nm, ¬ partIdx L.length (lpOf L) nm < 0 → PartR n V (pOf L nm)
  sm : Sm d ps
  ask : kd ≠ 1 → ps ≠ [] ∧ ¬ partIdx L.length (lpOf L) fty < 0 ∧ cR L.length (lpOf L) d (pOf L fty).fs.length (fsN (pOf L fty)) [] ps = 0
theorem KeepX.low {b : Nat} {w0 C w : World} (hB : Below w0.heap.size w0 C) (hk : KeepX (fun k => k = b) C w) (hb : w0.heap.size ≤ b) : Below w0.heap.size w0 w := by
  have hs := hB.size
  exact hB.trans ⟨hk.os, hk.tape, hk.output, hk.size, fun k hk9 => hk.block k ⟨by omega, by omega⟩⟩
theorem partPtr_at {L : List PPart} {g i : Nat} {nm : ByteArray} (h : mfind L nm = (i : Int)) : partPtr L g nm = .pointer (some ⟨g, i * 4, none⟩) := by
  unfold partPtr; rw [h, if_neg (by omega), Int.toNat_natCast]
theorem part_spot {L : List PPart} {typ : ByteArray} (hpi : ¬ partIdx L.length (lpOf L) typ < 0) : ∃ i : Nat, mfind L typ = (i : Int) ∧ i < L.length ∧ pOf L typ = nth L i := by
  obtain ⟨i, hi⟩ : ∃ i : Nat, mfind L typ = (i : Int) := ⟨(mfind L typ).toNat, by have : ¬ mfind L typ < 0 := hpi; omega⟩
  have hil : i < L.length := by
    have h1 := (idx_in (p := fun j => eqs (nth L j).name typ) hpi).1
    have h2 : idx L.length (fun j => eqs (nth L j).name typ) = (i : Int) := hi
    rw [h2] at h1; simpa using h1
  refine ⟨i, hi, hil, ?_⟩
  unfold pOf
  rw [show idx L.length (fun i => eqs (nth L i).name typ) = (i : Int) from hi, Int.toNat_natCast]
/-- What the first k keys bring. -/
def subsK (V : Nat → LServ) (L : List PPart) (d : Nat) (q : PPart) (ps : List (Pick d)) (K : Nat → ByteArray) (k : Nat) : List (List (Got d)) := (((List.range k).map K).filter (thereP V q)).map (fun key => gots V L d q key ps)
theorem subsK_zero (V : Nat → LServ) (L : List PPart) (d : Nat) (q : PPart) (ps : List (Pick d)) (K : Nat → ByteArray) : subsK V L d q ps K 0 = [] := rfl
theorem subsK_not {V : Nat → LServ} {L : List PPart} {d : Nat} {q : PPart} {ps : List (Pick d)} {K : Nat → ByteArray} {k : Nat} (h : thereP V q (K k) = false) : subsK V L d q ps K (k + 1) = subsK V L d q ps K k := by
  unfold subsK; rw [List.range_succ]; simp [h]
theorem subsK_yes {V : Nat → LServ} {L : List PPart} {d : Nat} {q : PPart} {ps : List (Pick d)} {K : Nat → ByteArray} {k : Nat} (h : thereP V q (K k) = true) : subsK V L d q ps K (k + 1) = subsK V L d q ps K k ++ [gots V L d q (K k) ps] := by
  unfold subsK; rw [List.range_succ]; simp [h]
theorem subsK_len (V : Nat → LServ) (L : List PPart) (d : Nat) (q : PPart) (ps : List (Pick d)) (K : Nat → ByteArray) (k : Nat) : (subsK V L d q ps K k).length ≤ k := by
  unfold subsK
  rw [List.length_map]
  refine Nat.le_trans (List.length_filter_le _ _) ?_
  simp
/-- The box of what is being got. -/
def gCs (nm : ByteArray) (kd : Int) (tx : ByteArray) (u : Value) : Array Value := #[.string nm, .int .i64 kd, .bool false, .string tx, .slice none 0 0, u]
theorem SRow.more {d sc bg base : Nat} {sa : Option Addr} {w w' : World} {v' : Value} {sv : Nat → Value} {S : List (List (Got d))} {M : List (Got d)} {nm tx : ByteArray} {kd : Int} (h : SRow base w (.slice sa S.length sc) S sv) (cg : w.heap[bg]? = some (.cells (gCs nm kd tx (.slice sa S.length sc)) 56 (0, 0)))
    (hr : R22 w d M base S.length sv (.slice sa S.length sc) v' w') (hb : bg < base) (hbase : base ≤ w.heap.size) :
    (∃ sv', SRow base (w'.setCell ⟨bg, 5, none⟩ v') v' (S ++ [M]) sv') ∧ (w'.setCell ⟨bg, 5, none⟩ v').heap[bg]? = some (.cells (gCs nm kd tx v') 56 (0, 0)) ∧ (∃ a' c', v' = .slice a' (S.length + 1) c') ∧ KeepX (fun q => q = bg ∨ base ≤ q) w (w'.setCell ⟨bg, 5, none⟩ v') := by
  obtain ⟨X, a, c, r1, rc, r2, r3, r4, r5⟩ := hr
  have hbg : bg < w.heap.size := lt_of_block cg
  have hob : ∀ q, (Value.slice sa S.length sc).ownBlock = some q → base ≤ q ∧ q < w.heap.size := fun q hq => h.row.lt hq
  have cw : w'.heap[bg]? = some (.cells (gCs nm kd tx (.slice sa S.length sc)) 56 (0, 0)) := by
    rw [r4.block bg (Nat.lt_of_lt_of_le hbg r1.size) (fun e => by have := (hob bg e.symm).1; omega), r1.block bg hbg]; exact cg
  have happ := (h.kept r1).app rc r2 hbase (fun k hk => (hob k hk).2) r3 r4 r5
  refine ⟨⟨_, happ.move (by simp) fun k _ hbk => Below.heap_setCell _ _ _ _ (by show k ≠ bg; omega)⟩, heap_setCell_same _ bg 5 _ 56 _ cw, owned_slice r3, ⟨r4.os.trans r1.os, r4.tape.trans r1.tape, r4.output.trans r1.output, by simpa using Nat.le_trans r1.size r4.size, fun q hq => ?_⟩⟩
  rw [Below.heap_setCell _ _ _ _ (fun e => hq.2 (.inl e)), r4.block q (Nat.lt_of_lt_of_le hq.1 r1.size) (fun e => hq.2 (.inr (hob q e.symm).1)), r1.block q hq.1]
end Go.Proofs.YtjjggefmmeminabGreat

/-
  Get: what the keys of a val bring.
-/
namespace Go.Proofs.YtjjggefmmeminabGreat
open Go.RowKit Go.Sort Go.PlainAid

set_option maxRecDepth 100000 in
set_option maxHeartbeats 80000000 in
theorem keys_block {Q : Exit → Act → World → Prop} {la pa aa : Option Addr} {n lcap pn pc d ac bk bf bg : Nat} {V : Nat → LServ} {L : List PPart} {ps : List (Pick d)} {fty nm tx : ByteArray} {kd : Int} {w0 C : World} {ka : Option Addr} {nk kcap : Nat} {K : Nat → ByteArray}
    (HE : Hid (GE w0 la n lcap V L pa pn pc d aa ps fty kd)) (HB : Hid (Below w0.heap.size w0 C)) (hbg : w0.heap.size ≤ bg) (HCF : Hid (C.cell? ⟨bf, 2, none⟩ = some (.string fty))) (HCK : Hid (C.cell? ⟨bk, 2, none⟩ = some (.slice aa ps.length ac))) (hfg : bf ≠ bg) (hkg : bk ≠ bg) (HKY : Hid (KeysAt w0 ka nk K)) (hnk : nk ≤ 20) (hw9 : nk ≠ 0 → kd ≠ 1) (HBG : Hid (C.heap[bg]? = some (.cells (gCs nm kd tx (.slice none 0 0)) 56 (0, 0))))
    (v2 v3 v4 v5 v6 v7 v8 v9 v10 v11 v12 v14 v16 v18 v19 v20 v21 v22 v23 v24 v25 v26 v27 v28 v29 v30 v31 v32 v33 v34 v35 v36 v37 v38 v39 v40 v41 v42 v43 v44 v45 v46 v47 v48 v49 v50 v51 v52 v53 v54 v55 v56 v57 v58 v59 v60 v61 v62 v63 v64 v65 v66 v67 v68 v69 v70 v71 v72 v73 v74 v75 v76 v77 v78 v79 v80 v81 v82 v83 v84 v85 v86 v87 v88 v89 v90 v91 v92 v96 v97 v98 v99 v100 v101 v102 v103 v104 v105 v106 v107 v108 v109 v110 v111 v112 v113 v114 v115 v116 v117 v118 v119 v120 v121 v122 v123 v124 v125 v126 v127 v128 v129 v130 v131 v132 v133 v134 v135 v136 v137 v138 v139 v140 : Value)
    (HEND : Hid (∀ (u22 u23 u95 u96 u97 u98 u99 u100 u101 u102 u103 u104 u105 u106 u107 u108 u109 u110 u111 u112 u113 u114 u115 u116 u117 u118 u119 : Value) (w' : World) (sa : Option Addr) (sc : Nat) (sv : Nat → Value), KeepX (fun q => q = bg) C w' → w'.heap[bg]? = some (.cells (gCs nm kd tx (.slice sa (subsK V L d (pOf L fty) ps K nk).length sc)) 56 (0, 0)) → SRow C.heap.size w' (.slice sa (subsK V L d (pOf L fty) ps K nk).length sc) (subsK V L d (pOf L fty) ps K nk) sv → Q .normal ⟨#[.slice la n lcap, .slice pa pn pc, v2, v3, v4, v5, v6, v7, v8, v9, v10, v11, v12, .pointer (some ⟨bk, 0, none⟩), v14, .pointer (some ⟨bf, 0, none⟩), v16, .pointer (some ⟨bg, 0, none⟩), v18, v19, v20, v21, u22, u23, v24, v25, v26, v27, v28, v29, v30, v31, v32, v33, v34, v35, v36, v37, v38, v39, v40, v41, v42, v43, v44, v45, v46, v47, v48, v49, v50, v51, v52, v53, v54, v55, v56, v57, v58, v59, v60, v61, v62, v63, v64, v65, v66, v67, v68, v69, v70, v71, v72, v73, v74, v75, v76, v77, v78, v79, v80, v81, v82, v83, v84, v85, v86, v87, v88, v89, v90, v91, v92, .slice ka nk kcap, .int .i64 (nk : Int), u95, u96, u97, u98, u99, u100, u101, u102, u103, u104, u105, u106, u107, u108, u109, u110, u111, u112, u113, u114, u115, u116, u117, u118, u119, v120, v121, v122, v123, v124, v125, v126, v127, v128, v129, v130, v131, v132, v133, v134, v135, v136, v137, v138, v139, v140], []⟩ w')) :
    Code.wp Tryz.prog (piece Tryz.f21 (blockOf 4)) Q ⟨#[.slice la n lcap, .slice pa pn pc, v2, v3, v4, v5, v6, v7, v8, v9, v10, v11, v12, .pointer (some ⟨bk, 0, none⟩), v14, .pointer (some ⟨bf, 0, none⟩), v16, .pointer (some ⟨bg, 0, none⟩), v18, v19, v20, v21, v22, v23, v24, v25, v26, v27, v28, v29, v30, v31, v32, v33, v34, v35, v36, v37, v38, v39, v40, v41, v42, v43, v44, v45, v46, v47, v48, v49, v50, v51, v52, v53, v54, v55, v56, v57, v58, v59, v60, v61, v62, v63, v64, v65, v66, v67, v68, v69, v70, v71, v72, v73, v74, v75, v76, v77, v78, v79, v80, v81, v82, v83, v84, v85, v86, v87, v88, v89, v90, v91, v92, .slice ka nk kcap, .int .i64 (nk : Int), .int .i64 0, v96, v97, v98, v99, v100, v101, v102, v103, v104, v105, v106, v107, v108, v109, v110, v111, v112, v113, v114, v115, v116, v117, v118, v119, v120, v121, v122, v123, v124, v125, v126, v127, v128, v129, v130, v131, v132, v133, v134, v135, v136, v137, v138, v139, v140], []⟩ C := by
  refine calm ?_
  conv => arg 2; whnf
  dsimp only
  obtain ⟨i0, hi0, hz0, hz1, hz2⟩ := info_parts' Tryz.info26
  obtain ⟨S, hS⟩ : ∃ S, S = subsK V L d (pOf L fty) ps K := ⟨_, rfl⟩
  have HSK : Hid (∀ k, S k = subsK V L d (pOf L fty) ps K k) := Hid.intro fun k => by rw [hS]
  rw [← hS] at HEND
  clear hS
  have hCs : bg < C.heap.size := lt_of_block HBG.out
  go_wp2_with fail
  go_loopw [95] (fun i wr => ∃ k : Nat, k ≤ nk ∧ i = .int .i64 k ∧ KeepX (fun q => q = bg) C wr ∧ ∃ sa sc sv, wr.heap[bg]? = some (.cells (gCs nm kd tx (.slice sa (S k).length sc)) 56 (0, 0)) ∧ SRow C.heap.size wr (.slice sa (S k).length sc) (S k) sv) (fun i _ => nk - (intOf i).toNat)
  case atStart =>
    have h0 : S 0 = [] := by rw [HSK.out, subsK_zero]
    exact ⟨0, Nat.zero_le _, rfl, KeepX.refl _ _, none, 0, fun _ => undef, by rw [h0]; exact HBG.out, by rw [h0]; exact SRow.nil _ _ _ _⟩
  case round =>
    obtain ⟨k, hk, rfl, hw, sa, sc, sv, hbx, hSR⟩ := hrel
    have HW := Hid.intro hw
    have HBX := Hid.intro hbx
    have HSR := Hid.intro hSR
    clear hw hbx hSR
    by_cases hlt : k < nk
    · have hBr : Below w0.heap.size w0 wr := HW.out.low HB.out hbg
      obtain ⟨hne, hpi, hcR⟩ := HE.out.ask (hw9 (by omega))
      obtain ⟨Z, rv, hPa⟩ := HE.out.parts
      obtain ⟨i, hi, hil, hpO⟩ := part_spot hpi
      obtain ⟨kb, ko, hka, ck, -⟩ := (HKY.out.kept hBr).2 k hlt
      subst hka
      obtain ⟨g, cap', a1, c1, a2, c2, a3, c3, hpv, -, -, -, hpt⟩ := (hPa.kept' hBr).pt hil
      cases hpv
      have hlt' : (k : Int) < (nk : Int) := by omega
      have hk0 : (0 : Int) ≤ (k : Int) := by omega
      have cf : wr.cell? ⟨bf, 2, none⟩ = some (.string fty) := HW.out.cell HCF.out hfg
      have HCKr : Hid (wr.cell? ⟨bk, 2, none⟩ = some (.slice aa ps.length ac)) := Hid.intro (HW.out.cell HCK.out hkg)
      have hPR := HE.out.right fty hpi
      rw [hpO] at hPR
      have HPR := Hid.intro hPR
      have HPT := Hid.intro hpt
      have HBr := Hid.intro hBr
      have HPO := Hid.intro hpO
      have HGET : Hid (∀ w1, Below wr.heap.size wr w1 → Calls Tryz.prog 21 #[.slice la n lcap, .slice (some ⟨g, 0, none⟩) L.length pc, .pointer (some ⟨g, i * 4, none⟩), .string (K k), .slice aa ps.length ac] w1 fun e w' => (∃ a c, e = .returned (.slice a (gots V L d (nth L i) (K k) ps).length c) ∧ (gots V L d (nth L i) (K k) ps).length ≤ c ∧ Free (fun q => q < w1.heap.size) w' (fun w => GotsAt w d a (gots V L d (nth L i) (K k) ps))) ∧ Below w1.heap.size w1 w') := Hid.intro fun w1 h1 => by
        have hB1 : Below w0.heap.size w0 w1 := hBr.trans (h1.mono hBr.size)
        have := HE.out.get Z rv g fty (K k) aa ac ps w1 (HE.out.servs.kept hB1) (hPa.kept' hB1) rfl hne hpi hcR HE.out.sm (HE.out.picks.kept hB1)
        rw [hi, Int.toNat_natCast, hpO] at this
        exact this.mono fun e w' ⟨⟨va, vc, e1, e2, e3⟩, hb⟩ => ⟨⟨va, vc, e1, e2, e3.free⟩, hb⟩
      have HSV : Hid (∀ w1, Below wr.heap.size wr w1 → ServsAt w1 la n V) := Hid.intro fun w1 h1 => HE.out.servs.kept (hBr.trans (h1.mono hBr.size))
      have hcl := refPart_any Z (some ⟨g, 0, none⟩) L.length pc L rv fty wr (hPa.kept' hBr)
      have hlp : 0 < L.length := by omega
      have HMF := Hid.intro hi
      clear hBr hne hpi hcR hPa hpO hpt hPR hi
      go_wp2_with fail
      refine hcl.mono ?_
      clear hcl
      rintro e w1 ⟨⟨g', hg', rfl⟩, hw1⟩
      cases hg' hlp
      rw [partPtr_at HMF.out]
      have HW1 := Hid.intro hw1
      have hcl := rthere_any la n lcap V (nth L i) g (i * 4) a1 a2 a3 c1 c2 c3 (K k) w1 (HSV.out w1 hw1) (HPT.out.kept hw1) HPR.out
      clear hw1 hg' ck cf
      go_wp2_with fail
      refine hcl.mono ?_
      clear hcl
      rintro e w2 ⟨rfl, hw2⟩
      have hw12 : Below wr.heap.size wr w2 := HW1.out.trans (hw2.mono HW1.out.size)
      have hkx : KeepX (fun q => q = bg) C w2 := HW.out.trans (KeepX.of hw12) fun _ _ h => h
      have HKX := Hid.intro hkx
      have HW12 := Hid.intro hw12
      have HBX2 := Hid.intro ((hw12.block _ (lt_of_block HBX.out)).trans HBX.out)
      have HSR2 := Hid.intro (HSR.out.kept hw12)
      have HCK2 := Hid.intro (keptCell hw12 HCKr.out)
      clear hw2 hw12 hkx HW1 HSR HBX HCKr HSV HPT HMF
      cases ht : thereP V (nth L i) (K k) with
      | false =>
        have hS1 : Hid (S (k + 1) = S k) := Hid.intro (by rw [HSK.out, HSK.out, subsK_not (by rw [HPO.out]; exact ht)])
        clear ht
        go_wp2_with fail
        go_roundw
        case rel => exact ⟨k + 1, by omega, by go_num, HKX.out, sa, sc, sv, by rw [hS1.out]; exact HBX2.out, by rw [hS1.out]; exact HSR2.out⟩
        case measure => simp [intOf]; omega
      | true =>
        have hS1 : Hid (S (k + 1) = S k ++ [gots V L d (nth L i) (K k) ps]) := Hid.intro (by rw [HSK.out, HSK.out, subsK_yes (by rw [HPO.out]; exact ht), HPO.out])
        have hSl : (S k).length ≤ 60 := by rw [HSK.out]; have := subsK_len V L d (pOf L fty) ps K k; omega
        clear ht
        go_upto_region 22 with fail
        refine getMore (d := d) (bg := bg) (bk := bk) (base := C.heap.size) (M := gots V L d (nth L i) (K k) ps) (i0 := i0) hi0 hz0 hz1 hz2 (by kernel_rfl) hSl HKX.out.size rfl rfl rfl rfl rfl rfl HBX2.out HCK2.out HSR2.out.row (fun w3 h3 => HGET.out w3 (HW12.out.trans (h3.mono HW12.out.size))) ?_
        intro s w' v' hr
        obtain ⟨⟨sv', hS'⟩, hbx', ⟨a', c', rfl⟩, hkx'⟩ := HSR2.out.more HBX2.out hr hCs HKX.out.size
        have HK' : Hid (KeepX (fun q => q = bg) C (w'.setCell ⟨bg, 5, none⟩ (.slice a' ((S k).length + 1) c'))) := Hid.intro (Keep.trans HKX.out (Keep.mono hkx' fun q hq => ⟨Nat.lt_of_lt_of_le hq.1 HKX.out.size, fun h => h.elim hq.2 (fun h9 => by have := hq.1; omega)⟩))
        have hl1 : (S (k + 1)).length = (S k).length + 1 := by rw [hS1.out]; simp
        have HS' : Hid (SRow C.heap.size (w'.setCell ⟨bg, 5, none⟩ (.slice a' ((S k).length + 1) c')) (.slice a' (S (k + 1)).length c') (S (k + 1)) sv') := Hid.intro (by rw [hl1, hS1.out]; exact hS')
        have HB' : Hid ((w'.setCell ⟨bg, 5, none⟩ (.slice a' ((S k).length + 1) c')).heap[bg]? = some (.cells (gCs nm kd tx (.slice a' (S (k + 1)).length c')) 56 (0, 0))) := Hid.intro (by rw [hl1]; exact hbx')
        clear hr hS' hbx' hkx' hl1 HKX HBX2 HSR2 HCK2 HW12 HGET
        simp only [putAll, Act.put, List.setIfInBounds_toArray, List.set_cons_succ, List.set_cons_zero]
        generalize s 107 = t107
        generalize s 108 = t108
        generalize s 109 = t109
        generalize s 110 = t110
        generalize s 111 = t111
        generalize s 112 = t112
        generalize s 113 = t113
        generalize s 114 = t114
        generalize s 115 = t115
        generalize s 116 = t116
        generalize s 117 = t117
        generalize s 118 = t118
        go_wp2_with fail
        go_roundw
        case rel => exact ⟨k + 1, by omega, by go_num, HK'.out, a', c', sv', HB'.out, HS'.out⟩
        case measure => simp [intOf]; omega
    · have hkn : k = nk := by omega
      subst hkn
      go_wp2_with fail
      exact HEND.out _ _ _ _ _ _ _ _ _ _ _ _ _ _ _ _ _ _ _ _ _ _ _ _ _ _ _ _ _ _ _ HW.out HBX.out HSR.out
end Go.Proofs.YtjjggefmmeminabGreat

/-
  Get: what the vals of a thing bring.
-/
namespace Go.Proofs.YtjjggefmmeminabGreat
open Go.RowKit Go.Sort Go.PlainAid

set_option maxRecDepth 100000 in
set_option maxHeartbeats 80000000 in
theorem vals_block {Q : Exit → Act → World → Prop} {la pa aa : Option Addr} {n lcap pn pc d ac bk bf bg : Nat} {V : Nat → LServ} {L : List PPart} {ps : List (Pick d)} {fty nm : ByteArray} {kd : Int} {w0 C : World} {va : Option Addr} {nv vcap m bo : Nat} {X : Nat → LVal} {ofl : ByteArray} {fl : LField}
    (HE : Hid (GE w0 la n lcap V L pa pn pc d aa ps fty kd)) (HB : Hid (Below w0.heap.size w0 C)) (hbg : w0.heap.size ≤ bg) (HCF : Hid (C.cell? ⟨bf, 2, none⟩ = some (.string fty))) (HCK : Hid (C.cell? ⟨bk, 2, none⟩ = some (.slice aa ps.length ac))) (hfg : bf ≠ bg) (hkg : bk ≠ bg) (HV : Hid (ValsAt w0 va nv X)) (hm : m < nv) (HU : Hid (∀ m', m' < nv → (eqs (X m').field ofl = true ↔ m' = m))) (HVR : Hid (fl.kind = kd ∧ ValR fl (X m))) (HCO : Hid (C.cell? ⟨bo, 2, none⟩ = some (.string ofl))) (hog : bo ≠ bg) (HBG : Hid (C.heap[bg]? = some (.cells (gCs nm kd ⟨#[]⟩ (.slice none 0 0)) 56 (0, 0))))
    (v2 v3 v4 v5 v6 v7 v8 v9 v10 v11 v12 v14 v18 v19 v20 v21 v22 v23 v24 v25 v26 v27 v28 v29 v30 v31 v32 v33 v34 v35 v36 v37 v38 v39 v40 v41 v42 v43 v44 v45 v46 v47 v48 v49 v50 v51 v52 v53 v54 v55 v56 v57 v58 v59 v60 v61 v62 v63 v64 v65 v66 v67 v68 v69 v70 v71 v72 v73 v74 v75 v76 v77 v81 v82 v83 v84 v85 v86 v87 v88 v89 v90 v91 v92 v93 v94 v95 v96 v97 v98 v99 v100 v101 v102 v103 v104 v105 v106 v107 v108 v109 v110 v111 v112 v113 v114 v115 v116 v117 v118 v119 v120 v121 v122 v123 v124 v125 v126 v127 v128 v129 v130 v131 v132 v133 v134 v135 v136 v137 v138 v139 v140 : Value)
    (HEND : Hid (∀ (u20 u22 u23 u80 u81 u82 u83 u84 u85 u86 u87 u88 u89 u90 u91 u92 u93 u94 u95 u96 u97 u98 u99 u100 u101 u102 u103 u104 u105 u106 u107 u108 u109 u110 u111 u112 u113 u114 u115 u116 u117 u118 u119 u120 : Value) (w' : World) (sa : Option Addr) (sc : Nat) (sv : Nat → Value), KeepX (fun q => q = bg) C w' → w'.heap[bg]? = some (.cells (gCs nm kd (X m).text (.slice sa (subsK V L d (pOf L fty) ps (X m).K (X m).nk).length sc)) 56 (0, 0)) → SRow C.heap.size w' (.slice sa (subsK V L d (pOf L fty) ps (X m).K (X m).nk).length sc) (subsK V L d (pOf L fty) ps (X m).K (X m).nk) sv → Q .normal ⟨#[.slice la n lcap, .slice pa pn pc, v2, v3, v4, v5, v6, v7, v8, v9, v10, v11, v12, .pointer (some ⟨bk, 0, none⟩), v14, .pointer (some ⟨bf, 0, none⟩), .pointer (some ⟨bo, 0, none⟩), .pointer (some ⟨bg, 0, none⟩), v18, v19, u20, v21, u22, u23, v24, v25, v26, v27, v28, v29, v30, v31, v32, v33, v34, v35, v36, v37, v38, v39, v40, v41, v42, v43, v44, v45, v46, v47, v48, v49, v50, v51, v52, v53, v54, v55, v56, v57, v58, v59, v60, v61, v62, v63, v64, v65, v66, v67, v68, v69, v70, v71, v72, v73, v74, v75, v76, v77, .slice va nv vcap, .int .i64 (nv : Int), u80, u81, u82, u83, u84, u85, u86, u87, u88, u89, u90, u91, u92, u93, u94, u95, u96, u97, u98, u99, u100, u101, u102, u103, u104, u105, u106, u107, u108, u109, u110, u111, u112, u113, u114, u115, u116, u117, u118, u119, u120, v121, v122, v123, v124, v125, v126, v127, v128, v129, v130, v131, v132, v133, v134, v135, v136, v137, v138, v139, v140], []⟩ w')) :
    Code.wp Tryz.prog (piece Tryz.f21 (blockOf 2)) Q ⟨#[.slice la n lcap, .slice pa pn pc, v2, v3, v4, v5, v6, v7, v8, v9, v10, v11, v12, .pointer (some ⟨bk, 0, none⟩), v14, .pointer (some ⟨bf, 0, none⟩), .pointer (some ⟨bo, 0, none⟩), .pointer (some ⟨bg, 0, none⟩), v18, v19, v20, v21, v22, v23, v24, v25, v26, v27, v28, v29, v30, v31, v32, v33, v34, v35, v36, v37, v38, v39, v40, v41, v42, v43, v44, v45, v46, v47, v48, v49, v50, v51, v52, v53, v54, v55, v56, v57, v58, v59, v60, v61, v62, v63, v64, v65, v66, v67, v68, v69, v70, v71, v72, v73, v74, v75, v76, v77, .slice va nv vcap, .int .i64 (nv : Int), .int .i64 0, v81, v82, v83, v84, v85, v86, v87, v88, v89, v90, v91, v92, v93, v94, v95, v96, v97, v98, v99, v100, v101, v102, v103, v104, v105, v106, v107, v108, v109, v110, v111, v112, v113, v114, v115, v116, v117, v118, v119, v120, v121, v122, v123, v124, v125, v126, v127, v128, v129, v130, v131, v132, v133, v134, v135, v136, v137, v138, v139, v140], []⟩ C := by
  refine calm ?_
  conv => arg 2; whnf
  dsimp only
  obtain ⟨S, hS⟩ : ∃ S, S = subsK V L d (pOf L fty) ps (X m).K (X m).nk := ⟨_, rfl⟩
  rw [← hS] at HEND
  have HSK := Hid.intro hS
  clear hS
  have hCs : bg < C.heap.size := lt_of_block HBG.out
  have hnv : nv ≤ 9223372036854775807 := HV.out.1
  go_wp2_with fail
  go_loopw [80] (fun i wr => ∃ j : Nat, j ≤ nv ∧ i = .int .i64 j ∧ KeepX (fun q => q = bg) C wr ∧ ((j ≤ m ∧ wr.heap[bg]? = some (.cells (gCs nm kd ⟨#[]⟩ (.slice none 0 0)) 56 (0, 0))) ∨ (m < j ∧ ∃ sa sc sv, wr.heap[bg]? = some (.cells (gCs nm kd (X m).text (.slice sa (S).length sc)) 56 (0, 0)) ∧ SRow C.heap.size wr (.slice sa S.length sc) S sv))) (fun i _ => nv - (intOf i).toNat)
  case atStart => exact ⟨0, Nat.zero_le _, rfl, KeepX.refl _ _, .inl ⟨Nat.zero_le _, HBG.out⟩⟩
  case round =>
    obtain ⟨j, hj, rfl, hw, hst⟩ := hrel
    have HW := Hid.intro hw
    have HST := Hid.intro hst
    clear hw hst
    by_cases hlt : j < nv
    · have hBr : Below w0.heap.size w0 wr := HW.out.low HB.out hbg
      obtain ⟨b, o, hva, c0, c1, c2, -, -, -, -⟩ := (HV.out.kept hBr).2 j hlt
      subst hva
      have hlt' : (j : Int) < (nv : Int) := by omega
      have hj0 : (0 : Int) ≤ (j : Int) := by omega
      have hgl : bg < wr.heap.size := Nat.lt_of_lt_of_le hCs HW.out.size
      generalize hX : wr.alloc (Obj.cells #[.string (X j).field, .string (X j).text, .slice (X j).ka (X j).nk (X j).kcap] 120) = X1
      have hBX : Below wr.heap.size wr X1 := by rw [← hX]; exact below1 _ _
      have x0 : X1.cell? ⟨wr.heap.size, 0, none⟩ = some (.string (X j).field) := by rw [← hX, World.cell?_alloc_at _ _ _ _ rfl]; rfl
      have x1 : X1.cell? ⟨wr.heap.size, 1, none⟩ = some (.string (X j).text) := by rw [← hX, World.cell?_alloc_at _ _ _ _ rfl]; rfl
      have HX2 : Hid (X1.cell? ⟨wr.heap.size, 2, none⟩ = some (.slice (X j).ka (X j).nk (X j).kcap)) := Hid.intro (by rw [← hX, World.cell?_alloc_at _ _ _ _ rfl]; rfl)
      have o2 : X1.cell? ⟨bo, 2, none⟩ = some (.string ofl) := keptCell hBX (HW.out.cell HCO.out hog)
      have HKX : Hid (KeepX (fun q => q = bg) C X1) := Hid.intro (HW.out.trans (KeepX.of hBX) fun _ _ h => h)
      have HBX := Hid.intro hBX
      have hu := HU.out j hlt
      have hobl : wr.heap.size ≤ X1.heap.size := hBX.size
      clear hBr hBX
      by_cases hjm : j = m
      · have he : eqs (X j).field ofl = true := hu.2 hjm
        have h1 : ((X j).field.toList == ofl.toList) = true := by rw [eqs_eq]; exact he
        have h2 : ((X j).field.toList != ofl.toList) = false := by unfold bne; rw [h1]; rfl
        have hb0 : wr.heap[bg]? = some (.cells (gCs nm kd ⟨#[]⟩ (.slice none 0 0)) 56 (0, 0)) := by
          rcases HST.out with h | h
          · exact h.2
          · have := h.1; omega
        have hb1 := (HBX.out.block _ hgl).trans hb0
        have g3 : X1.cell? ⟨bg, 3, none⟩ = some (.string ⟨#[]⟩) := by simp [World.cell?, hb1, gCs]
        have z3 : X1.frozen? ⟨bg, 3, none⟩ = false := by simp [World.frozen?, hb1]
        have HB1 := Hid.intro hb1
        clear hu he hb0 hb1 HST
        subst hjm
        go_upto_region 17 with fail
        clear hX c0 c1 c2 x0 x1 o2 g3 z3
        generalize hY : X1.setCell ⟨bg, 3, none⟩ (.string (X j).text) = Y
        have y2 : Y.cell? ⟨wr.heap.size, 2, none⟩ = some (.slice (X j).ka (X j).nk (X j).kcap) := by
          rw [← hY, World.cell?_of_block (Below.heap_setCell _ _ _ _ (by show wr.heap.size ≠ bg; omega))]; exact HX2.out
        have HBY : Hid (Y.heap[bg]? = some (.cells (gCs nm kd (X j).text (.slice none 0 0)) 56 (0, 0))) := Hid.intro (by rw [← hY]; exact heap_setCell_same _ bg 3 _ 56 _ HB1.out)
        have HKY0 : Hid (KeepX (fun q => q = bg) C Y) := Hid.intro (by rw [← hY]; exact Keep.trans HKX.out (Keep.set _ _ _ fun h => h.2 rfl))
        clear hY
        have HBl := Hid.intro (HKY0.out.low HB.out hbg)
        have hk9 : (X j).nk ≠ 0 → kd ≠ 1 := fun h0 h1 => h0 (HVR.out.2.word (by rw [HVR.out.1]; exact h1))
        have hfew := HVR.out.2.few
        have HKEY : Hid (KeysAt w0 (X j).ka (X j).nk (X j).K) := Hid.intro (by
          obtain ⟨_, _, _, _, _, _, _, _, _, hk⟩ := HV.out.2 j hlt
          exact hk)
        have HCF2 := Hid.intro (HKY0.out.cell HCF.out hfg)
        have HCK2 := Hid.intro (HKY0.out.cell HCK.out hkg)
        clear HX2 HB1 HKX HBX
        go_upto_block 4 with fail
        refine keys_block (K := (X j).K) HE HBl hbg HCF2 HCK2 hfg hkg HKEY hfew hk9 HBY _ _ _ _ _ _ _ _ _ _ _ _ _ _ _ _ _ _ _ _ _ _ _ _ _ _ _ _ _ _ _ _ _ _ _ _ _ _ _ _ _ _ _ _ _ _ _ _ _ _ _ _ _ _ _ _ _ _ _ _ _ _ _ _ _ _ _ _ _ _ _ _ _ _ _ _ _ _ _ _ _ _ _ _ _ _ _ _ _ _ _ _ _ _ _ _ _ _ _ _ _ _ _ _ _ _ _ _ _ _ _ _ _ _ _ _ _ _ _ _ _ _ _ _ _ _ _ _ _ _ _ _ _ (Hid.intro ?_)
        intro u22 u23 u95 u96 u97 u98 u99 u100 u101 u102 u103 u104 u105 u106 u107 u108 u109 u110 u111 u112 u113 u114 u115 u116 u117 u118 u119 w' sa sc sv hk' hb' hs'
        rw [← HSK.out] at hb' hs'
        have HK' : Hid (KeepX (fun q => q = bg) C w') := Hid.intro (HKY0.out.trans hk' fun _ _ h => h)
        have HB' := Hid.intro hb'
        have HS' := Hid.intro (hs'.base HKY0.out.size)
        clear hk' hb' hs' HKY0 HBl HKEY HCF2 HCK2 HBY y2
        rename_i Kx hKx
        refine hKx _ _ ?_
        clear hKx
        go_wp2_with fail
        go_roundw
        case rel => exact ⟨j + 1, by omega, by go_num, HK'.out, .inr ⟨by omega, sa, sc, sv, HB'.out, HS'.out⟩⟩
        case measure => simp [intOf]; omega
      · have he : eqs (X j).field ofl = false := by
          rw [Bool.eq_false_iff]
          exact fun h => hjm (hu.1 h)
        have h1 : ((X j).field.toList == ofl.toList) = false := by rw [eqs_eq]; exact he
        have h2 : ((X j).field.toList != ofl.toList) = true := by unfold bne; rw [h1]; rfl
        have HN : Hid ((j + 1 ≤ m ∧ X1.heap[bg]? = some (.cells (gCs nm kd ⟨#[]⟩ (.slice none 0 0)) 56 (0, 0))) ∨ (m < j + 1 ∧ ∃ sa sc sv, X1.heap[bg]? = some (.cells (gCs nm kd (X m).text (.slice sa (S).length sc)) 56 (0, 0)) ∧ SRow C.heap.size X1 (.slice sa S.length sc) S sv)) := Hid.intro (by
          rcases HST.out with ⟨h3, h4⟩ | ⟨h3, sa, sc, sv, h4, h5⟩
          · exact .inl ⟨by omega, (HBX.out.block _ hgl).trans h4⟩
          · exact .inr ⟨by omega, sa, sc, sv, (HBX.out.block _ hgl).trans h4, h5.kept HBX.out⟩)
        clear hu he HST HX2 HBX
        go_wp2_with fail
        clear hX
        go_roundw
        case rel => exact ⟨j + 1, by omega, by go_num, HKX.out, HN.out⟩
        case measure => simp [intOf]; omega
    · have hjn : j = nv := by omega
      subst hjn
      obtain ⟨sa, sc, sv, hb', hs'⟩ : ∃ sa sc sv, wr.heap[bg]? = some (.cells (gCs nm kd (X m).text (.slice sa (S).length sc)) 56 (0, 0)) ∧ SRow C.heap.size wr (.slice sa S.length sc) S sv := by
        rcases HST.out with h | h
        · have := h.1; omega
        · exact h.2
      clear HST
      go_wp2_with fail
      exact HEND.out _ _ _ _ _ _ _ _ _ _ _ _ _ _ _ _ _ _ _ _ _ _ _ _ _ _ _ _ _ _ _ _ _ _ _ _ _ _ _ _ _ _ _ _ _ _ _ _ HW.out hb' hs'
end Go.Proofs.YtjjggefmmeminabGreat

/-
  Get: one thing, or things.
-/
namespace Go.Proofs.YtjjggefmmeminabGreat
open Go.RowKit Go.Sort Go.PlainAid

/-- What is got of a field, its text and its things found. -/
def gotR {d : Nat} (nm : ByteArray) (kd : Int) (tx : ByteArray) (S : List (List (Got d))) : Got (d + 1) := if kd = 1 then mkGot nm kd false tx [] [] else gotS nm kd S
set_option maxRecDepth 100000 in
set_option maxHeartbeats 80000000 in
theorem one_stmt {Q : Exit → Act → World → Prop} {bf bg N1 sc d : Nat} {nm tx : ByteArray} {kd : Int} {C : World} {sa : Option Addr} {sv : Nat → Value} {S : List (List (Got d))}
    (HCF : Hid (C.cell? ⟨bf, 1, none⟩ = some (.int .i64 kd))) (HBG : Hid (C.heap[bg]? = some (.cells (gCs nm kd tx (.slice sa (S).length sc)) 56 (0, 0)))) (HS : Hid (SRow N1 C (.slice sa S.length sc) S sv)) (hb : bg < N1) (hS9 : S.length ≤ 20) (htx : kd ≠ 1 → tx = ⟨#[]⟩) (hS1 : kd = 1 → S = [])
    (v0 v1 v2 v3 v4 v5 v6 v7 v8 v9 v10 v11 v12 v13 v14 v16 v18 v19 v20 v21 v22 v23 v24 v25 v26 v27 v28 v29 v30 v31 v32 v33 v34 v35 v36 v37 v38 v39 v40 v41 v42 v43 v44 v45 v46 v47 v48 v49 v50 v51 v52 v53 v54 v55 v56 v57 v58 v59 v60 v61 v62 v63 v64 v65 v66 v67 v68 v69 v70 v71 v72 v73 v74 v75 v76 v77 v78 v79 v80 v81 v82 v83 v84 v85 v86 v87 v88 v89 v90 v91 v92 v93 v94 v95 v96 v97 v98 v99 v100 v101 v102 v103 v104 v105 v106 v107 v108 v109 v110 v111 v112 v113 v114 v115 v116 v117 v118 v119 v120 v121 v122 v123 v124 v125 v126 v127 v128 v129 v130 v131 v132 v133 v134 v135 v136 v137 v138 v139 v140 : Value)
    (HEND : Hid (∀ (u121 u122 u123 u124 u125 u126 u127 u128 u129 u130 u131 u132 u133 u134 : Value) (w' : World) (A : Option Addr) (C1 : Nat) (A2 : Option Addr) (C2 : Nat), KeepX (fun q => q = bg) C w' → w'.heap[bg]? = some (.cells (gotCs (gotR nm kd tx S) A C1 A2 C2) 56 (0, 0)) → GotV (fun k => k < N1) w' (gotR nm kd tx S) A C1 A2 C2 → Q .normal ⟨#[v0, v1, v2, v3, v4, v5, v6, v7, v8, v9, v10, v11, v12, v13, v14, .pointer (some ⟨bf, 0, none⟩), v16, .pointer (some ⟨bg, 0, none⟩), v18, v19, v20, v21, v22, v23, v24, v25, v26, v27, v28, v29, v30, v31, v32, v33, v34, v35, v36, v37, v38, v39, v40, v41, v42, v43, v44, v45, v46, v47, v48, v49, v50, v51, v52, v53, v54, v55, v56, v57, v58, v59, v60, v61, v62, v63, v64, v65, v66, v67, v68, v69, v70, v71, v72, v73, v74, v75, v76, v77, v78, v79, v80, v81, v82, v83, v84, v85, v86, v87, v88, v89, v90, v91, v92, v93, v94, v95, v96, v97, v98, v99, v100, v101, v102, v103, v104, v105, v106, v107, v108, v109, v110, v111, v112, v113, v114, v115, v116, v117, v118, v119, v120, u121, u122, u123, u124, u125, u126, u127, u128, u129, u130, u131, u132, u133, u134, v135, v136, v137, v138, v139, v140], []⟩ w')) :
    Code.wp Tryz.prog (piece Tryz.f21 (seqOf 25)) Q ⟨#[v0, v1, v2, v3, v4, v5, v6, v7, v8, v9, v10, v11, v12, v13, v14, .pointer (some ⟨bf, 0, none⟩), v16, .pointer (some ⟨bg, 0, none⟩), v18, v19, v20, v21, v22, v23, v24, v25, v26, v27, v28, v29, v30, v31, v32, v33, v34, v35, v36, v37, v38, v39, v40, v41, v42, v43, v44, v45, v46, v47, v48, v49, v50, v51, v52, v53, v54, v55, v56, v57, v58, v59, v60, v61, v62, v63, v64, v65, v66, v67, v68, v69, v70, v71, v72, v73, v74, v75, v76, v77, v78, v79, v80, v81, v82, v83, v84, v85, v86, v87, v88, v89, v90, v91, v92, v93, v94, v95, v96, v97, v98, v99, v100, v101, v102, v103, v104, v105, v106, v107, v108, v109, v110, v111, v112, v113, v114, v115, v116, v117, v118, v119, v120, v121, v122, v123, v124, v125, v126, v127, v128, v129, v130, v131, v132, v133, v134, v135, v136, v137, v138, v139, v140], []⟩ C := by
  refine calm ?_
  conv => arg 2; whnf
  dsimp only
  have cf := HCF.out
  have hbg := HBG.out
  by_cases h2 : kd = 2
  · subst h2
    have htx' := htx (by decide)
    subst htx'
    have g2 : C.cell? ⟨bg, 2, none⟩ = some (.bool false) := by simp [World.cell?, hbg, gCs]
    have g4 : C.cell? ⟨bg, 4, none⟩ = some (.slice none 0 0) := by simp [World.cell?, hbg, gCs]
    have g5 : C.cell? ⟨bg, 5, none⟩ = some (.slice sa S.length sc) := by simp [World.cell?, hbg, gCs]
    have z2 : C.frozen? ⟨bg, 2, none⟩ = false := by simp [World.frozen?, hbg]
    have z4 : C.frozen? ⟨bg, 4, none⟩ = false := by simp [World.frozen?, hbg]
    have z5 : C.frozen? ⟨bg, 5, none⟩ = false := by simp [World.frozen?, hbg]
    by_cases h0 : 0 < S.length
    · obtain ⟨g, cap, A, C1, hv, d0, hc, hf⟩ := HS.out.first h0
      cases hv
      have hl0 : (0 : Int) < (S.length : Int) := by omega
      have hl1 : ((S.length : Int) == 0) = false := by rw [beq_eq_false_iff_ne]; omega
      have hr : gotR nm 2 ⟨#[]⟩ S = mkGot nm 2 false ⟨#[]⟩ (subN S 0) [] := by
        cases S with
        | nil => simp at h0
        | cons y S => rfl
      have HF : Hid (KeepX (fun q => q = bg) C ((C.setCell ⟨bg, 4, none⟩ (.slice A (subN S 0).length C1)).setCell ⟨bg, 5, none⟩ (.slice none 0 0)) ∧ ((C.setCell ⟨bg, 4, none⟩ (.slice A (subN S 0).length C1)).setCell ⟨bg, 5, none⟩ (.slice none 0 0)).heap[bg]? = some (.cells (gotCs (gotR nm 2 ⟨#[]⟩ S) A C1 none 0) 56 (0, 0)) ∧ GotV (fun k => k < N1) ((C.setCell ⟨bg, 4, none⟩ (.slice A (subN S 0).length C1)).setCell ⟨bg, 5, none⟩ (.slice none 0 0)) (gotR nm 2 ⟨#[]⟩ S) A C1 none 0) := Hid.intro (by
        rw [hr]
        refine ⟨Keep.trans (Keep.set _ _ _ fun h => h.2 rfl) (Keep.set _ _ _ fun h => h.2 rfl), heap_setCell_same _ bg 5 _ 56 _ (heap_setCell_same _ bg 4 _ 56 _ hbg), hc, Nat.le_refl _, ?_, subs_nil⟩
        exact hf.step (by simp) (fun k _ hk => by
          have : ¬ k < N1 := hk
          rw [Below.heap_setCell _ _ _ _ (by show k ≠ bg; omega), Below.heap_setCell _ _ _ _ (by show k ≠ bg; omega)]) (fun _ _ h => h))
      clear hc hf hr htx hS1 HS HBG HCF hbg
      go_wp2_with fail
      exact HEND.out _ _ _ _ _ _ _ _ _ _ _ _ _ _ _ A C1 none 0 HF.out.1 HF.out.2.1 HF.out.2.2
    · have hS0 : S = [] := List.eq_nil_of_length_eq_zero (by omega)
      subst hS0
      have HF : Hid (KeepX (fun q => q = bg) C (C.setCell ⟨bg, 2, none⟩ (.bool true)) ∧ (C.setCell ⟨bg, 2, none⟩ (.bool true)).heap[bg]? = some (.cells (gotCs (gotR (d := d) nm 2 ⟨#[]⟩ []) none 0 sa sc) 56 (0, 0)) ∧ GotV (fun k => k < N1) (C.setCell ⟨bg, 2, none⟩ (.bool true)) (gotR (d := d) nm 2 ⟨#[]⟩ []) none 0 sa sc) := Hid.intro
        ⟨Keep.set _ _ _ fun h => h.2 rfl, heap_setCell_same _ bg 2 _ 56 _ hbg, Nat.zero_le _, Nat.zero_le _, gots_nil, subs_nil⟩
      clear htx hS1 HS HBG HCF hbg h0 hS9
      go_wp2_with fail
      exact HEND.out _ _ _ _ _ _ _ _ _ _ _ _ _ _ _ none 0 sa sc HF.out.1 HF.out.2.1 HF.out.2.2
  · have hk2 : (kd == 2) = false := by simpa using h2
    obtain ⟨a', c', e, hc, hf⟩ := HS.out.out (by unfold maxLen; omega)
    cases e
    have HF : Hid (C.heap[bg]? = some (.cells (gotCs (gotR nm kd tx S) none 0 sa sc) 56 (0, 0)) ∧ GotV (fun k => k < N1) C (gotR nm kd tx S) none 0 sa sc) := Hid.intro (by
      by_cases h1 : kd = 1
      · have hS0 := hS1 h1
        subst hS0
        unfold gotR
        rw [if_pos h1]
        exact ⟨hbg, Nat.zero_le _, Nat.zero_le _, gots_nil, subs_nil⟩
      · have ht := htx h1
        subst ht
        unfold gotR gotS
        rw [if_neg h1, if_neg h2]
        exact ⟨hbg, Nat.zero_le _, hc, gots_nil, hf⟩)
    clear hc hf htx hS1 HS HBG HCF hbg h2
    go_wp2_with fail
    exact HEND.out _ _ _ _ _ _ _ _ _ _ _ _ _ _ _ none 0 sa sc (KeepX.refl _ _) HF.out.1 HF.out.2
end Go.Proofs.YtjjggefmmeminabGreat

/-
  Get: what is got, behind what was got.
-/
namespace Go.Proofs.YtjjggefmmeminabGreat
open Go.RowKit Go.Sort Go.PlainAid

set_option maxRecDepth 100000 in
set_option maxHeartbeats 80000000 in
theorem app29 {Q : Exit → Act → World → Prop} {bg N0 N1 d vc C1 C2 : Nat} {va A A2 : Option Addr} {S : List (Got (d + 1))} {av sv : Nat → Value} {gg : Got (d + 1)} {C : World}
    (HBG : Hid (C.heap[bg]? = some (.cells (gotCs gg A C1 A2 C2) 56 (0, 0)))) (HG : Hid (GRow N0 C (.slice va S.length vc) S av sv)) (HV : Hid (GotV (fun k => k < N1) C gg A C1 A2 C2)) (hN : N0 ≤ N1) (HVB : Hid (∀ q, (Value.slice va S.length vc).ownBlock = some q → q < N1)) (hC : N0 ≤ C.heap.size) (hSl : S.length ≤ 60)
    (v0 v1 v2 v3 v4 v5 v6 v7 v8 v9 v10 v12 v13 v14 v15 v16 v18 v19 v20 v21 v22 v23 v24 v25 v26 v27 v28 v29 v30 v31 v32 v33 v34 v35 v36 v37 v38 v39 v40 v41 v42 v43 v44 v45 v46 v47 v48 v49 v50 v51 v52 v53 v54 v55 v56 v57 v58 v59 v60 v61 v62 v63 v64 v65 v66 v67 v68 v69 v70 v71 v72 v73 v74 v75 v76 v77 v78 v79 v80 v81 v82 v83 v84 v85 v86 v87 v88 v89 v90 v91 v92 v93 v94 v95 v96 v97 v98 v99 v100 v101 v102 v103 v104 v105 v106 v107 v108 v109 v110 v111 v112 v113 v114 v115 v116 v117 v118 v119 v120 v121 v122 v123 v124 v125 v126 v127 v128 v129 v130 v131 v132 v133 v134 v135 v136 v137 v138 v139 v140 : Value)
    (HEND : Hid (∀ (u135 u136 u137 u138 v' : Value) (w' : World) (av' sv' : Nat → Value), GRow N0 w' v' (S ++ [gg]) av' sv' → Below N0 C w' → Q .normal ⟨#[v0, v1, v2, v3, v4, v5, v6, v7, v8, v9, v10, v', v12, v13, v14, v15, v16, .pointer (some ⟨bg, 0, none⟩), v18, v19, v20, v21, v22, v23, v24, v25, v26, v27, v28, v29, v30, v31, v32, v33, v34, v35, v36, v37, v38, v39, v40, v41, v42, v43, v44, v45, v46, v47, v48, v49, v50, v51, v52, v53, v54, v55, v56, v57, v58, v59, v60, v61, v62, v63, v64, v65, v66, v67, v68, v69, v70, v71, v72, v73, v74, v75, v76, v77, v78, v79, v80, v81, v82, v83, v84, v85, v86, v87, v88, v89, v90, v91, v92, v93, v94, v95, v96, v97, v98, v99, v100, v101, v102, v103, v104, v105, v106, v107, v108, v109, v110, v111, v112, v113, v114, v115, v116, v117, v118, v119, v120, v121, v122, v123, v124, v125, v126, v127, v128, v129, v130, v131, v132, v133, v134, u135, u136, u137, u138, v139, v140], []⟩ w')) :
    Code.wp Tryz.prog (piece Tryz.f21 (regOf 29)) Q ⟨#[v0, v1, v2, v3, v4, v5, v6, v7, v8, v9, v10, .slice va S.length vc, v12, v13, v14, v15, v16, .pointer (some ⟨bg, 0, none⟩), v18, v19, v20, v21, v22, v23, v24, v25, v26, v27, v28, v29, v30, v31, v32, v33, v34, v35, v36, v37, v38, v39, v40, v41, v42, v43, v44, v45, v46, v47, v48, v49, v50, v51, v52, v53, v54, v55, v56, v57, v58, v59, v60, v61, v62, v63, v64, v65, v66, v67, v68, v69, v70, v71, v72, v73, v74, v75, v76, v77, v78, v79, v80, v81, v82, v83, v84, v85, v86, v87, v88, v89, v90, v91, v92, v93, v94, v95, v96, v97, v98, v99, v100, v101, v102, v103, v104, v105, v106, v107, v108, v109, v110, v111, v112, v113, v114, v115, v116, v117, v118, v119, v120, v121, v122, v123, v124, v125, v126, v127, v128, v129, v130, v131, v132, v133, v134, v135, v136, v137, v138, v139, v140], []⟩ C := by
  refine calm ?_
  conv => arg 2; whnf
  dsimp only
  obtain ⟨i0, hi0, hz0, hz1, hz2⟩ := info_parts' Tryz.info56
  obtain ⟨⟨x0, x1, x2, x3, x4, x5⟩, -⟩ := got_box HBG.out rfl
  have HR := Hid.intro (HG.out.kept (below1 C (Obj.cells #[.string (gName gg), .int .i64 (gKind gg), .bool (gNull gg), .string (gText gg), .slice A (gSub gg).length C1, .slice A2 (gSubs gg).length C2] 56)))
  have HGV := Hid.intro (HV.out.kept (below1 C (Obj.cells #[.string (gName gg), .int .i64 (gKind gg), .bool (gNull gg), .string (gText gg), .slice A (gSub gg).length C1, .slice A2 (gSubs gg).length C2] 56)))
  have HW : Hid (Below N0 C (C.alloc (Obj.cells #[.string (gName gg), .int .i64 (gKind gg), .bool (gNull gg), .string (gText gg), .slice A (gSub gg).length C1, .slice A2 (gSubs gg).length C2] 56))) := Hid.intro ((below1 C _).mono hC)
  have HOW := Hid.intro HR.out.row
  have HVL : Hid (∀ q, (Value.slice va S.length vc).ownBlock = some q → N0 ≤ q) := Hid.intro fun q hq => (HG.out.row.lt hq).1
  have hNa : N0 ≤ (C.alloc (Obj.cells #[.string (gName gg), .int .i64 (gKind gg), .bool (gNull gg), .string (gText gg), .slice A (gSub gg).length C1, .slice A2 (gSubs gg).length C2] 56)).heap.size := Nat.le_trans hC HW.out.size
  clear HBG HG HV
  go_wp2_with (at_builtin; refine wpList_append_any _ rfl _ _ 26 rfl N0 56 i0 _ 6 96 Tryz.underlying26 hi0 hz0 hz1 hz2 rfl (by decide) _ S.length _ rfl HOW.out (some ⟨C.heap.size, 0, none⟩) 1 1 (gotL gg (.slice A (gSub gg).length C1) (.slice A2 (gSubs gg).length C2)) rfl rfl (alloc_news C #[.string (gName gg), .int .i64 (gKind gg), .bool (gNull gg), .string (gText gg), .slice A (gSub gg).length C1, .slice A2 (gSubs gg).length C2] _) (fun h => by cases h) (by intro u hu; simp [gotL] at hu; rcases hu with rfl | rfl | rfl | rfl | rfl | rfl <;> rfl) (by unfold maxLen; omega) (by omega) hNa ?_)
  intro v' w5 hown hgr hvb
  have HS5 := Hid.intro (HR.out.app HGV.out hN (fun q hq => HVB.out q hq) hown hgr (by simpa using hvb))
  have HW5 : Hid (Below N0 C w5) := Hid.intro (HW.out.grown hgr hNa (fun q hq => HVL.out q hq))
  clear hown hgr hvb HOW HR HGV HVB
  go_wp2_with fail
  exact HEND.out _ _ _ _ _ _ _ _ HS5.out HW5.out
set_option maxRecDepth 100000 in
set_option maxHeartbeats 80000000 in
theorem app11 {Q : Exit → Act → World → Prop} {bg N0 N1 d vc C1 C2 : Nat} {va A A2 : Option Addr} {S : List (Got (d + 1))} {av sv : Nat → Value} {gg : Got (d + 1)} {C : World}
    (HBG : Hid (C.heap[bg]? = some (.cells (gotCs gg A C1 A2 C2) 56 (0, 0)))) (HG : Hid (GRow N0 C (.slice va S.length vc) S av sv)) (HV : Hid (GotV (fun k => k < N1) C gg A C1 A2 C2)) (hN : N0 ≤ N1) (HVB : Hid (∀ q, (Value.slice va S.length vc).ownBlock = some q → q < N1)) (hC : N0 ≤ C.heap.size) (hSl : S.length ≤ 60)
    (v0 v1 v2 v3 v4 v5 v6 v7 v8 v9 v10 v12 v13 v14 v15 v16 v18 v19 v20 v21 v22 v23 v24 v25 v26 v27 v28 v29 v30 v31 v32 v33 v34 v35 v36 v37 v38 v39 v40 v41 v42 v43 v44 v45 v46 v47 v48 v49 v50 v51 v52 v53 v54 v55 v56 v57 v58 v59 v60 v61 v62 v63 v64 v65 v66 v67 v68 v69 v70 v71 v72 v73 v74 v75 v76 v77 v78 v79 v80 v81 v82 v83 v84 v85 v86 v87 v88 v89 v90 v91 v92 v93 v94 v95 v96 v97 v98 v99 v100 v101 v102 v103 v104 v105 v106 v107 v108 v109 v110 v111 v112 v113 v114 v115 v116 v117 v118 v119 v120 v121 v122 v123 v124 v125 v126 v127 v128 v129 v130 v131 v132 v133 v134 v135 v136 v137 v138 v139 v140 : Value)
    (HEND : Hid (∀ (u71 u72 u73 u74 v' : Value) (w' : World) (av' sv' : Nat → Value), GRow N0 w' v' (S ++ [gg]) av' sv' → Below N0 C w' → Q .normal ⟨#[v0, v1, v2, v3, v4, v5, v6, v7, v8, v9, v10, v', v12, v13, v14, v15, v16, .pointer (some ⟨bg, 0, none⟩), v18, v19, v20, v21, v22, v23, v24, v25, v26, v27, v28, v29, v30, v31, v32, v33, v34, v35, v36, v37, v38, v39, v40, v41, v42, v43, v44, v45, v46, v47, v48, v49, v50, v51, v52, v53, v54, v55, v56, v57, v58, v59, v60, v61, v62, v63, v64, v65, v66, v67, v68, v69, v70, u71, u72, u73, u74, v75, v76, v77, v78, v79, v80, v81, v82, v83, v84, v85, v86, v87, v88, v89, v90, v91, v92, v93, v94, v95, v96, v97, v98, v99, v100, v101, v102, v103, v104, v105, v106, v107, v108, v109, v110, v111, v112, v113, v114, v115, v116, v117, v118, v119, v120, v121, v122, v123, v124, v125, v126, v127, v128, v129, v130, v131, v132, v133, v134, v135, v136, v137, v138, v139, v140], []⟩ w')) :
    Code.wp Tryz.prog (piece Tryz.f21 (regOf 11)) Q ⟨#[v0, v1, v2, v3, v4, v5, v6, v7, v8, v9, v10, .slice va S.length vc, v12, v13, v14, v15, v16, .pointer (some ⟨bg, 0, none⟩), v18, v19, v20, v21, v22, v23, v24, v25, v26, v27, v28, v29, v30, v31, v32, v33, v34, v35, v36, v37, v38, v39, v40, v41, v42, v43, v44, v45, v46, v47, v48, v49, v50, v51, v52, v53, v54, v55, v56, v57, v58, v59, v60, v61, v62, v63, v64, v65, v66, v67, v68, v69, v70, v71, v72, v73, v74, v75, v76, v77, v78, v79, v80, v81, v82, v83, v84, v85, v86, v87, v88, v89, v90, v91, v92, v93, v94, v95, v96, v97, v98, v99, v100, v101, v102, v103, v104, v105, v106, v107, v108, v109, v110, v111, v112, v113, v114, v115, v116, v117, v118, v119, v120, v121, v122, v123, v124, v125, v126, v127, v128, v129, v130, v131, v132, v133, v134, v135, v136, v137, v138, v139, v140], []⟩ C := by
  refine calm ?_
  conv => arg 2; whnf
  dsimp only
  obtain ⟨i0, hi0, hz0, hz1, hz2⟩ := info_parts' Tryz.info56
  obtain ⟨⟨x0, x1, x2, x3, x4, x5⟩, -⟩ := got_box HBG.out rfl
  have HR := Hid.intro (HG.out.kept (below1 C (Obj.cells #[.string (gName gg), .int .i64 (gKind gg), .bool (gNull gg), .string (gText gg), .slice A (gSub gg).length C1, .slice A2 (gSubs gg).length C2] 56)))
  have HGV := Hid.intro (HV.out.kept (below1 C (Obj.cells #[.string (gName gg), .int .i64 (gKind gg), .bool (gNull gg), .string (gText gg), .slice A (gSub gg).length C1, .slice A2 (gSubs gg).length C2] 56)))
  have HW : Hid (Below N0 C (C.alloc (Obj.cells #[.string (gName gg), .int .i64 (gKind gg), .bool (gNull gg), .string (gText gg), .slice A (gSub gg).length C1, .slice A2 (gSubs gg).length C2] 56))) := Hid.intro ((below1 C _).mono hC)
  have HOW := Hid.intro HR.out.row
  have HVL : Hid (∀ q, (Value.slice va S.length vc).ownBlock = some q → N0 ≤ q) := Hid.intro fun q hq => (HG.out.row.lt hq).1
  have hNa : N0 ≤ (C.alloc (Obj.cells #[.string (gName gg), .int .i64 (gKind gg), .bool (gNull gg), .string (gText gg), .slice A (gSub gg).length C1, .slice A2 (gSubs gg).length C2] 56)).heap.size := Nat.le_trans hC HW.out.size
  clear HBG HG HV
  go_wp2_with (at_builtin; refine wpList_append_any _ rfl _ _ 26 rfl N0 56 i0 _ 6 96 Tryz.underlying26 hi0 hz0 hz1 hz2 rfl (by decide) _ S.length _ rfl HOW.out (some ⟨C.heap.size, 0, none⟩) 1 1 (gotL gg (.slice A (gSub gg).length C1) (.slice A2 (gSubs gg).length C2)) rfl rfl (alloc_news C #[.string (gName gg), .int .i64 (gKind gg), .bool (gNull gg), .string (gText gg), .slice A (gSub gg).length C1, .slice A2 (gSubs gg).length C2] _) (fun h => by cases h) (by intro u hu; simp [gotL] at hu; rcases hu with rfl | rfl | rfl | rfl | rfl | rfl <;> rfl) (by unfold maxLen; omega) (by omega) hNa ?_)
  intro v' w5 hown hgr hvb
  have HS5 := Hid.intro (HR.out.app HGV.out hN (fun q hq => HVB.out q hq) hown hgr (by simpa using hvb))
  have HW5 : Hid (Below N0 C w5) := Hid.intro (HW.out.grown hgr hNa (fun q hq => HVL.out q hq))
  clear hown hgr hvb HOW HR HGV HVB
  go_wp2_with fail
  exact HEND.out _ _ _ _ _ _ _ _ HS5.out HW5.out
end Go.Proofs.YtjjggefmmeminabGreat

/-
  The contract of stitchref4.Get.
-/
namespace Go.Proofs.YtjjggefmmeminabGreat
open Go.RowKit Go.Sort Go.PlainAid

set_option maxRecDepth 100000 in
set_option maxHeartbeats 80000000 in
theorem rget_succ (la : Option Addr) (n lcap : Nat) (V : Nat → LServ) (L : List PPart) (pa : Option Addr) (pn pc : Nat) (hR : ∀ nm, ¬ partIdx L.length (lpOf L) nm < 0 → PartR n V (pOf L nm)) (d : Nat) (ih : RGetOk la n lcap V L pa pn pc d) : RGetOk la n lcap V L pa pn pc (d + 1) := by
  intro Z rv g typ key a cap ps w hS hPa hpa _ hpi hcR hm hP
  subst hpa
  obtain ⟨i, hi, hil, hpO⟩ := part_spot hpi
  have hPR := hR typ hpi
  rw [hi, Int.toNat_natCast]
  rw [hpO] at hPR hcR ⊢
  obtain ⟨g', cap', a1, c1, a2, c2, a3, c3, hpv, -, -, -, hpt⟩ := hPa.pt hil
  cases hpv
  have hps : ps.length ≤ 60 := hm.1
  have hps' : ps.length ≤ 9223372036854775807 := by omega
  have hAsk : ∀ j, j < ps.length → ¬ fieldIdx (nth L i).fs.length (fsN (nth L i)) (pfield (pickN ps j)) < 0 ∧ AskR L d (fOf (nth L i) (pfield (pickN ps j))) (subs (pickN ps j)) := fun j hj => ask_each hcR hj
  have HPA : Hid (∃ Z rv, Parts Z w (.slice (some ⟨g, 0, none⟩) L.length pc) L rv) := Hid.intro ⟨Z, rv, hPa⟩
  have HRR := Hid.intro hR
  have HIH := Hid.intro ih
  clear hPa hcR hpi hpO hR ih hi hil
  generalize nth L i = p at *
  have HS := Hid.intro hS
  have HPT := Hid.intro hpt
  have HP := Hid.intro hP
  have HM := Hid.intro hm
  have HPR := Hid.intro hPR
  have HAsk := Hid.intro hAsk
  obtain ⟨G, hG⟩ : ∃ G, G = gots V L (d + 1) p key ps := ⟨_, rfl⟩
  rw [← hG]
  have HGL : Hid (G.length = ps.length) := Hid.intro (by rw [hG, gots_len])
  have HGT : Hid (∀ k, k < ps.length → G.take (k + 1) = G.take k ++ [gotK V L (gots V L d) p key (pickN ps k)]) := Hid.intro fun k hk => by rw [hG, gots_succ, take_map _ _ _ hk, pickN_get hk]
  clear hG hS hpt hP hm hPR hAsk
  go_enter Tryz.func21, Tryz.ntmps21
  go_wp2_with fail
  go_loopw [11, 26] (fun v iv wr => ∃ k : Nat, k ≤ ps.length ∧ iv = .int .i64 k ∧ Below w.heap.size w wr ∧ ∃ av sv, GRow w.heap.size wr v (G.take k) av sv) (fun _ iv _ => ps.length - (intOf iv).toNat)
  case atStart => exact ⟨0, Nat.zero_le _, rfl, Below.refl _ _, fun _ => undef, fun _ => undef, GRow.nil _ _ _ _ _⟩
  case round =>
    obtain ⟨k, hk, rfl, hw, av, sv, hGR⟩ := hrel
    obtain ⟨S, hSd⟩ : ∃ S, S = G.take k := ⟨_, rfl⟩
    rw [← hSd] at hGR
    obtain ⟨va, vc, rfl, hvc⟩ := hGR.slice
    by_cases hlt : k < ps.length
    · obtain ⟨b, o, A, C, hab, q0, q1, q2, hC, s0, s1, hPs⟩ := HP.out.2 k hlt
      subst hab
      have q0 := keptCell hw q0
      have q1 := keptCell hw q1
      have q2 := keptCell hw q2
      have hlt' : (k : Int) < (ps.length : Int) := by omega
      have hk0 : (0 : Int) ≤ (k : Int) := by omega
      have hSl : S.length ≤ 60 := by rw [hSd, List.length_take]; omega
      obtain ⟨gg, hgg⟩ : ∃ gg, gg = gotK V L (gots V L d) p key (pickN ps k) := ⟨_, rfl⟩
      have HT : Hid (G.take (k + 1) = S ++ [gg]) := Hid.intro (by rw [HGT.out k hlt, ← hSd, hgg])
      generalize hX : wr.alloc (Obj.cells #[.string (nick (pickN ps k)), .string (pfield (pickN ps k)), .slice A (subs (pickN ps k)).length C] 72) = X1
      have hBX : Below wr.heap.size wr X1 := by rw [← hX]; exact below1 _ _
      have HBK : Hid (X1.heap[wr.heap.size]? = some (.cells #[.string (nick (pickN ps k)), .string (pfield (pickN ps k)), .slice A (subs (pickN ps k)).length C] 72 (0, 0))) := Hid.intro (by rw [← hX]; exact heap_alloc_new _ _)
      obtain ⟨hf', hz⟩ := HAsk.out k hlt
      have hf : ¬ fieldIdx p.fs.length (fsN p) (pfield (pickN ps k)) < 0 := by omega
      obtain ⟨fi, hfi⟩ : ∃ fi : Nat, fieldIdx p.fs.length (fsN p) (pfield (pickN ps k)) = (fi : Int) := ⟨(fieldIdx p.fs.length (fsN p) (pfield (pickN ps k))).toNat, by omega⟩
      have hfl : fi < p.fs.length := by
        have h1 := (idx_in (p := fun j => eqs (fsN p j).name (pfield (pickN ps k))) hf).1
        have h2 : idx p.fs.length (fun j => eqs (fsN p j).name (pfield (pickN ps k))) = (fi : Int) := hfi
        rw [h2] at h1; simpa using h1
      have hfo : fi < p.os.length := by rw [HPR.out.os]; exact hfl
      have ef : fOf p (pfield (pickN ps k)) = fsN p fi := by unfold fOf; rw [hfi, Int.toNat_natCast]
      have eo : oOf p (pfield (pickN ps k)) = osN p fi := by unfold oOf; rw [hfi, Int.toNat_natCast]
      obtain ⟨s_, hs, hsv, hOR⟩ := HPR.out.owner (pfield (pickN ps k)) hf
      rw [ef] at hz hOR
      rw [eo] at hsv hOR
      have HGG : Hid (gg = if hasT (V s_) (osN p fi).type key = true then gotV V L (gots V L d) (called (pickN ps k)) (fsN p fi) (valT (thingT (V s_) (osN p fi).type key) (osN p fi).field) (subs (pickN ps k)) else mkGot (called (pickN ps k)) (fsN p fi).kind true ⟨#[]⟩ [] []) := Hid.intro (by rw [hgg]; unfold gotK gotO; rw [ef, eo, hsv, Int.toNat_natCast])
      obtain ⟨fb, fo, hfa, f0, f1, f2, -⟩ := HPT.out.fields.2 fi hfl
      subst hfa
      obtain ⟨ob, oo, hoa, o0, o1, o2, -⟩ := HPT.out.owners.2 fi hfo
      subst hoa
      rw [hsv] at o0
      obtain ⟨bs, os, hla, hsrv⟩ := HS.out.2 s_ hs
      subst hla
      have HXw : Hid (Below w.heap.size w X1) := Hid.intro (hw.trans (hBX.mono hw.size))
      have HXr := Hid.intro hBX
      have HGR := Hid.intro hGR
      have HSRV := Hid.intro hsrv
      have HFI := Hid.intro hfi
      have HF : Hid (w.cell? ⟨fb, fo + fi * 3, none⟩ = some (.string (fsN p fi).name) ∧ w.cell? ⟨fb, fo + fi * 3 + 1, none⟩ = some (.int .i64 (fsN p fi).kind) ∧ w.cell? ⟨fb, fo + fi * 3 + 2, none⟩ = some (.string (fsN p fi).type)) := Hid.intro ⟨f0, f1, f2⟩
      have HO : Hid (w.cell? ⟨ob, oo + fi * 3, none⟩ = some (.int .i64 (s_ : Int)) ∧ w.cell? ⟨ob, oo + fi * 3 + 1, none⟩ = some (.string (osN p fi).type) ∧ w.cell? ⟨ob, oo + fi * 3 + 2, none⟩ = some (.string (osN p fi).field)) := Hid.intro ⟨o0, o1, o2⟩
      have HOR : Hid (OwnR V s_ (fsN p fi) (osN p fi)) := Hid.intro hOR
      have HGE : Hid (GE w (some ⟨bs, os, none⟩) n lcap V L (some ⟨g, 0, none⟩) L.length pc d A (subs (pickN ps k)) (fsN p fi).type (fsN p fi).kind) := Hid.intro ⟨HS.out, HPA.out, hPs, HIH.out, fun nm h => HRR.out nm (by omega), HM.out.2 k hlt, fun h => hz.elim (fun h1 => absurd h1.1 h) (fun h1 => h1.2)⟩
      have hwl : w.heap.size ≤ wr.heap.size := hw.size
      have HVB0 : Hid (∀ q, (Value.slice va S.length vc).ownBlock = some q → q < wr.heap.size) := Hid.intro fun q hq => (hGR.row.lt hq).2
      clear hw hBX hGR hsrv hfi hf hf' hz hOR hsv ef eo f0 f1 f2 o0 o1 o2 hPs hgg hSd s0 s1 hC
      go_upto_region 5 with fail
      clear hX q0 q1 q2
      refine getAt (g := g) (o := i * 4) (bk := wr.heap.size) (i := fi) (pf := pfield (pickN ps k)) (by kernel_rfl) rfl rfl (keptCell HXw.out HPT.out.c1) (by simp [World.cell?, HBK.out]) (fun w1 h1 => ?_) ?_
      · have := refAt_any (some ⟨fb, fo, none⟩) p.fs.length c1 (fsN p) (pfield (pickN ps k)) w1 (HPT.out.fields.kept (HXw.out.trans (h1.mono HXw.out.size)))
        rw [HFI.out] at this
        exact this
      intro st w2 hB2 hs14
      have HB2 : Hid (Below w.heap.size w w2) := Hid.intro (HXw.out.trans (hB2.mono HXw.out.size))
      have HR2 : Hid (Below wr.heap.size wr w2) := Hid.intro (HXr.out.trans (hB2.mono HXr.out.size))
      have HBK2 := Hid.intro ((hB2.block _ (lt_of_block HBK.out)).trans HBK.out)
      clear hB2 HXw HXr HBK HFI
      simp only [putAll, Act.put, List.setIfInBounds_toArray, List.set_cons_succ, List.set_cons_zero, hs14]
      generalize st 30 = t30
      generalize st 31 = t31
      generalize st 32 = t32
      generalize st 33 = t33
      generalize st 34 = t34
      generalize st 35 = t35
      generalize st 36 = t36
      generalize st 37 = t37
      clear hs14
      go_upto_region 6 with fail
      refine getTwo (g := g) (o := i * 4) (i := fi) (by kernel_rfl) rfl rfl hfl hfo (keptCell HB2.out HPT.out.c1) (keptCell HB2.out HPT.out.c2) (keptCell HB2.out HF.out.1) (keptCell HB2.out HF.out.2.1) (keptCell HB2.out HF.out.2.2) (keptCell HB2.out HO.out.1) (keptCell HB2.out HO.out.2.1) (keptCell HB2.out HO.out.2.2) ?_
      intro st6 w3 bf bo hB3 hs15 hbf hBF hs16 hbo hBO
      have HB3 : Hid (Below w.heap.size w w3) := Hid.intro (HB2.out.trans (hB3.mono HB2.out.size))
      have HR3 : Hid (Below wr.heap.size wr w3) := Hid.intro (HR2.out.trans (hB3.mono HR2.out.size))
      have HBK3 := Hid.intro ((hB3.block _ (lt_of_block HBK2.out)).trans HBK2.out)
      have HBF3 := Hid.intro hBF
      have HBO3 := Hid.intro hBO
      clear hB3 HB2 HR2 HBK2 hBF hBO HF HO hbf hbo
      simp only [putAll, Act.put, List.setIfInBounds_toArray, List.set_cons_succ, List.set_cons_zero, hs15, hs16]
      generalize st6 38 = t38
      generalize st6 39 = t39
      generalize st6 40 = t40
      generalize st6 41 = t41
      generalize st6 42 = t42
      generalize st6 43 = t43
      generalize st6 44 = t44
      generalize st6 45 = t45
      generalize st6 46 = t46
      generalize st6 47 = t47
      generalize st6 48 = t48
      generalize st6 49 = t49
      generalize st6 50 = t50
      generalize st6 51 = t51
      generalize st6 52 = t52
      clear hs15 hs16
      go_upto_region 7 with fail
      refine getNew (bp := wr.heap.size) (bf := bf) (nk := nick (pickN ps k)) (pf := pfield (pickN ps k)) (A := A) (pn := (subs (pickN ps k)).length) (pc := C) (nm := called (pickN ps k)) (kd := (fsN p fi).kind) (by kernel_rfl) rfl rfl (by simp [World.cell?, HBK3.out]) (by simp [World.cell?, HBK3.out]) (by simp [World.cell?, HBK3.out]) (by simp [World.cell?, HBF3.out]) (fun w1 _ => rcalled_any d (pickN ps k) A _ C w1) ?_
      intro st7 w4 bg hB4 hs17 hbg hBG
      have HB4 : Hid (Below w.heap.size w w4) := Hid.intro (HB3.out.trans (hB4.mono HB3.out.size))
      have HR4 : Hid (Below wr.heap.size wr w4) := Hid.intro (HR3.out.trans (hB4.mono HR3.out.size))
      have HBK4 := Hid.intro ((hB4.block _ (lt_of_block HBK3.out)).trans HBK3.out)
      have HBF4 := Hid.intro ((hB4.block _ (lt_of_block HBF3.out)).trans HBF3.out)
      have HBO4 := Hid.intro ((hB4.block _ (lt_of_block HBO3.out)).trans HBO3.out)
      have HBG4 := Hid.intro hBG
      have hkg : wr.heap.size ≠ bg := by have := lt_of_block HBK3.out; omega
      have hfg : bf ≠ bg := by have := lt_of_block HBF3.out; omega
      have hog : bo ≠ bg := by have := lt_of_block HBO3.out; omega
      have hwg : w.heap.size ≤ bg := by have := lt_of_block HBK3.out; omega
      have hrg : wr.heap.size ≤ bg := by have := lt_of_block HBK3.out; omega
      clear hB4 HB3 HR3 HBK3 HBF3 HBO3 hBG hbg
      simp only [putAll, Act.put, List.setIfInBounds_toArray, List.set_cons_succ, List.set_cons_zero, hs17]
      generalize st7 53 = t53
      generalize st7 54 = t54
      generalize st7 55 = t55
      generalize st7 56 = t56
      generalize st7 57 = t57
      clear hs17
      go_upto_region 8 with fail
      refine getThing (bo := bo) (s := s_) (ty := (osN p fi).type) (tp := tpO (V s_) (osN p fi).type key) (by kernel_rfl) rfl rfl rfl hs (by simp [World.cell?, HBO4.out]) (by simp [World.cell?, HBO4.out]) (keptCell HB4.out HSRV.out.c2) (fun w1 h1 => ?_) ?_
      · have := refThing_any (V s_).xa (V s_).nx (V s_).xcap (V s_).X (osN p fi).type key w1 (HSRV.out.ok.things.kept (HB4.out.trans (h1.mono HB4.out.size)))
        rw [tpO_ptr] at this
        exact this
      intro st8 w5 hB5 hs18
      have HB5 : Hid (Below w.heap.size w w5) := Hid.intro (HB4.out.trans (hB5.mono HB4.out.size))
      have HR5 : Hid (Below wr.heap.size wr w5) := Hid.intro (HR4.out.trans (hB5.mono HR4.out.size))
      have HBK5 := Hid.intro ((hB5.block _ (lt_of_block HBK4.out)).trans HBK4.out)
      have HBF5 := Hid.intro ((hB5.block _ (lt_of_block HBF4.out)).trans HBF4.out)
      have HBO5 := Hid.intro ((hB5.block _ (lt_of_block HBO4.out)).trans HBO4.out)
      have HBG5 := Hid.intro ((hB5.block _ (lt_of_block HBG4.out)).trans HBG4.out)
      have hgl : bg < w5.heap.size := lt_of_block HBG5.out
      clear hB5 HB4 HR4 HBK4 HBF4 HBO4 HBG4
      cases hh : hasT (V s_) (osN p fi).type key with
      | false =>
        have hnil : tpO (V s_) (osN p fi).type key = none := by
          have h1 := tpO_some (ty := (osN p fi).type) (key := key) HSRV.out.ok.things
          rw [hh] at h1
          exact Option.isNone_iff_eq_none.1 (by rw [← Option.not_isSome, h1]; rfl)
        rw [hnil] at hs18
        have HG0 : Hid (gg = mkGot (called (pickN ps k)) (fsN p fi).kind true ⟨#[]⟩ [] []) := Hid.intro (by rw [HGG.out, hh]; rfl)
        have g2 : w5.cell? ⟨bg, 2, none⟩ = some (.bool false) := by simp [World.cell?, HBG5.out]
        have z2 : w5.frozen? ⟨bg, 2, none⟩ = false := by simp [World.frozen?, HBG5.out]
        have HBY : Hid ((w5.setCell ⟨bg, 2, none⟩ (.bool true)).heap[bg]? = some (.cells (gotCs gg none 0 none 0) 56 (0, 0))) := Hid.intro (by rw [HG0.out]; exact heap_setCell_same _ bg 2 _ 56 _ HBG5.out)
        have hRY : Below wr.heap.size wr (w5.setCell ⟨bg, 2, none⟩ (.bool true)) := HR5.out.trans (((OnlyB.refl bg w5).set 2 _).below hrg)
        have HWY : Hid (Below w.heap.size w (w5.setCell ⟨bg, 2, none⟩ (.bool true))) := Hid.intro (HB5.out.trans (((OnlyB.refl bg w5).set 2 _).below hwg))
        have HGY := Hid.intro (HGR.out.kept hRY)
        have hGV : GotV (fun k => k < w5.heap.size) (w5.setCell ⟨bg, 2, none⟩ (.bool true)) gg none 0 none 0 := by
          rw [HG0.out]; exact ⟨Nat.le_refl _, Nat.le_refl _, gots_nil, subs_nil⟩
        have HGV := Hid.intro hGV
        have hYs : w.heap.size ≤ (w5.setCell ⟨bg, 2, none⟩ (.bool true)).heap.size := HWY.out.size
        have hw5 : w.heap.size ≤ w5.heap.size := HB5.out.size
        have HVB5 : Hid (∀ q, (Value.slice va S.length vc).ownBlock = some q → q < w5.heap.size) := Hid.intro fun q hq => Nat.lt_of_lt_of_le (HVB0.out q hq) HR5.out.size
        clear hh hnil hRY hGV HBK5 HBF5 HBO5 HR5 HGR HGG HG0 HSRV HOR HGE HVB0 HBG5
        simp only [putAll, Act.put, List.setIfInBounds_toArray, List.set_cons_succ, List.set_cons_zero, hs18]
        generalize st8 58 = t58
        generalize st8 59 = t59
        generalize st8 60 = t60
        generalize st8 61 = t61
        generalize st8 62 = t62
        generalize st8 63 = t63
        generalize st8 64 = t64
        generalize st8 65 = t65
        generalize st8 66 = t66
        generalize st8 67 = t67
        clear hs18
        go_upto_region 11 with fail
        clear g2 z2
        refine app11 (gg := gg) (N0 := w.heap.size) (N1 := w5.heap.size) HBY HGY HGV hw5 HVB5 hYs hSl _ _ _ _ _ _ _ _ _ _ _ _ _ _ _ _ _ _ _ _ _ _ _ _ _ _ _ _ _ _ _ _ _ _ _ _ _ _ _ _ _ _ _ _ _ _ _ _ _ _ _ _ _ _ _ _ _ _ _ _ _ _ _ _ _ _ _ _ _ _ _ _ _ _ _ _ _ _ _ _ _ _ _ _ _ _ _ _ _ _ _ _ _ _ _ _ _ _ _ _ _ _ _ _ _ _ _ _ _ _ _ _ _ _ _ _ _ _ _ _ _ _ _ _ _ _ _ _ _ _ _ _ _ _ _ _ _ _ _ (Hid.intro ?_)
        intro u71 u72 u73 u74 v' w6 av' sv' hG6 hB6
        have HB6 : Hid (Below w.heap.size w w6) := Hid.intro (HWY.out.trans hB6)
        have HG6 := Hid.intro hG6
        clear hG6 hB6 HBY HGY HGV HVB5 HWY hYs hw5 HB5
        go_wp2_with fail
        go_roundw
        case rel => exact ⟨k + 1, by omega, by go_num, HB6.out, av', sv', by rw [HT.out]; exact HG6.out⟩
        case measure => simp [intOf]; omega
      | true =>
        obtain ⟨tb, to_, htp, hth⟩ := tpO_at HSRV.out.ok.things hh
        rw [htp] at hs18
        obtain ⟨m, hm, ev, hu, gl, hgk, hvr⟩ := HOR.out key hh
        rw [hh, if_pos rfl, ev] at HGG
        obtain ⟨th, hthd⟩ : ∃ th, th = thingT (V s_) (osN p fi).type key := ⟨_, rfl⟩
        rw [← hthd] at hth hm hu hvr HGG
        obtain ⟨-, -, t2, -, -, -, hVA⟩ := hth
        have t2 := keptCell HB5.out t2
        have HVA := Hid.intro hVA
        have HU := Hid.intro hu
        have HVR : Hid (gl.kind = (fsN p fi).kind ∧ ValR gl (th.V m)) := Hid.intro ⟨hgk, hvr⟩
        have HCF : Hid (w5.cell? ⟨bf, 2, none⟩ = some (.string (fsN p fi).type)) := Hid.intro (by simp [World.cell?, HBF5.out])
        have HCF1 : Hid (w5.cell? ⟨bf, 1, none⟩ = some (.int .i64 (fsN p fi).kind)) := Hid.intro (by simp [World.cell?, HBF5.out])
        have HCK : Hid (w5.cell? ⟨wr.heap.size, 2, none⟩ = some (.slice A (subs (pickN ps k)).length C)) := Hid.intro (by simp [World.cell?, HBK5.out])
        have HCO : Hid (w5.cell? ⟨bo, 2, none⟩ = some (.string (osN p fi).field)) := Hid.intro (by simp [World.cell?, HBO5.out])
        have HVB5 : Hid (∀ q, (Value.slice va S.length vc).ownBlock = some q → q < w5.heap.size) := Hid.intro fun q hq => Nat.lt_of_lt_of_le (HVB0.out q hq) HR5.out.size
        have hw5 : w.heap.size ≤ w5.heap.size := HB5.out.size
        clear hh htp ev hu hgk hvr hVA hthd HBK5 HBF5 HBO5 HSRV HOR HVB0
        simp only [putAll, Act.put, List.setIfInBounds_toArray, List.set_cons_succ, List.set_cons_zero, hs18]
        generalize st8 58 = t58
        generalize st8 59 = t59
        generalize st8 60 = t60
        generalize st8 61 = t61
        generalize st8 62 = t62
        generalize st8 63 = t63
        generalize st8 64 = t64
        generalize st8 65 = t65
        generalize st8 66 = t66
        generalize st8 67 = t67
        clear hs18
        go_upto_block 2 with fail
        clear t2
        refine vals_block (X := th.V) (m := m) (fl := gl) (nm := called (pickN ps k)) (kd := (fsN p fi).kind) HGE HB5 hwg HCF HCK hfg hkg HVA hm HU HVR HCO hog HBG5 _ _ _ _ _ _ _ _ _ _ _ _ _ _ _ _ _ _ _ _ _ _ _ _ _ _ _ _ _ _ _ _ _ _ _ _ _ _ _ _ _ _ _ _ _ _ _ _ _ _ _ _ _ _ _ _ _ _ _ _ _ _ _ _ _ _ _ _ _ _ _ _ _ _ _ _ _ _ _ _ _ _ _ _ _ _ _ _ _ _ _ _ _ _ _ _ _ _ _ _ _ _ _ _ _ _ _ _ _ _ _ _ _ _ _ _ _ _ _ _ _ _ _ _ _ _ _ _ _ _ _ _ (Hid.intro ?_)
        intro u20 u22 u23 u80 u81 u82 u83 u84 u85 u86 u87 u88 u89 u90 u91 u92 u93 u94 u95 u96 u97 u98 u99 u100 u101 u102 u103 u104 u105 u106 u107 u108 u109 u110 u111 u112 u113 u114 u115 u116 u117 u118 u119 u120 w6 sa sc sv6 hk6 hb6 hs6
        have HK6 := Hid.intro hk6
        have HBG6 := Hid.intro hb6
        have HS6 := Hid.intro hs6
        have HCF6 : Hid (w6.cell? ⟨bf, 1, none⟩ = some (.int .i64 (fsN p fi).kind)) := Hid.intro (hk6.cell HCF1.out hfg)
        have htx : (fsN p fi).kind ≠ 1 → (th.V m).text = ⟨#[]⟩ := fun h => HVR.out.2.text (by rw [HVR.out.1]; exact h)
        have hS1 : (fsN p fi).kind = 1 → subsK V L d (pOf L (fsN p fi).type) (subs (pickN ps k)) (th.V m).K (th.V m).nk = [] := fun h => by
          rw [HVR.out.2.word (by rw [HVR.out.1]; exact h)]; rfl
        have hS9 : (subsK V L d (pOf L (fsN p fi).type) (subs (pickN ps k)) (th.V m).K (th.V m).nk).length ≤ 20 := Nat.le_trans (subsK_len _ _ _ _ _ _ _) HVR.out.2.few
        have HG1 : Hid (gg = gotR (called (pickN ps k)) (fsN p fi).kind (th.V m).text (subsK V L d (pOf L (fsN p fi).type) (subs (pickN ps k)) (th.V m).K (th.V m).nk)) := Hid.intro (by rw [HGG.out]; rfl)
        clear hk6 hb6 hs6 HGE HCF HCF1 HCK HVA HU HVR HCO HBG5 HGG
        generalize subsK V L d (pOf L (fsN p fi).type) (subs (pickN ps k)) (th.V m).K (th.V m).nk = SS at *
        generalize (th.V m).text = tx at *
        rename_i Kx hKx
        refine hKx _ _ ?_
        clear hKx
        refine wp_seq ?_
        refine one_stmt (N1 := w5.heap.size) (nm := called (pickN ps k)) (tx := tx) (kd := (fsN p fi).kind) HCF6 HBG6 HS6 hgl hS9 htx hS1 _ _ _ _ _ _ _ _ _ _ _ _ _ _ _ _ _ _ _ _ _ _ _ _ _ _ _ _ _ _ _ _ _ _ _ _ _ _ _ _ _ _ _ _ _ _ _ _ _ _ _ _ _ _ _ _ _ _ _ _ _ _ _ _ _ _ _ _ _ _ _ _ _ _ _ _ _ _ _ _ _ _ _ _ _ _ _ _ _ _ _ _ _ _ _ _ _ _ _ _ _ _ _ _ _ _ _ _ _ _ _ _ _ _ _ _ _ _ _ _ _ _ _ _ _ _ _ _ _ _ _ _ _ _ _ _ _ _ _ (Hid.intro ?_)
        intro u121 u122 u123 u124 u125 u126 u127 u128 u129 u130 u131 u132 u133 u134 w7 A7 C7 A8 C8 hk7 hb7 hv7
        rw [← HG1.out] at hb7 hv7
        have hk57 : KeepX (fun q => q = bg) w5 w7 := HK6.out.trans hk7 fun _ _ h => h
        have HR7 : Hid (Below wr.heap.size wr w7) := Hid.intro (hk57.low HR5.out hrg)
        have HW7 : Hid (Below w.heap.size w w7) := Hid.intro (hk57.low HB5.out hwg)
        have HBG7 := Hid.intro hb7
        have HGV7 := Hid.intro hv7
        have HG7 := Hid.intro (HGR.out.kept HR7.out)
        have hW7s : w.heap.size ≤ w7.heap.size := HW7.out.size
        clear hk7 hb7 hv7 hk57 HR7 HK6 HBG6 HS6 HCF6 HG1 hS9 htx hS1 HR5 HGR
        show Code.wp _ _ _ _ _
        refine app29 (gg := gg) (N0 := w.heap.size) (N1 := w5.heap.size) HBG7 HG7 HGV7 hw5 HVB5 hW7s hSl _ _ _ _ _ _ _ _ _ _ _ _ _ _ _ _ _ _ _ _ _ _ _ _ _ _ _ _ _ _ _ _ _ _ _ _ _ _ _ _ _ _ _ _ _ _ _ _ _ _ _ _ _ _ _ _ _ _ _ _ _ _ _ _ _ _ _ _ _ _ _ _ _ _ _ _ _ _ _ _ _ _ _ _ _ _ _ _ _ _ _ _ _ _ _ _ _ _ _ _ _ _ _ _ _ _ _ _ _ _ _ _ _ _ _ _ _ _ _ _ _ _ _ _ _ _ _ _ _ _ _ _ _ _ _ _ _ _ _ (Hid.intro ?_)
        intro u135 u136 u137 u138 v' w8 av' sv' hG8 hB8
        have HB8 : Hid (Below w.heap.size w w8) := Hid.intro (HW7.out.trans hB8)
        have HG8 := Hid.intro hG8
        clear hG8 hB8 HBG7 HG7 HGV7 HVB5 HW7 hW7s hw5 HB5
        rename_i Kx hKx
        refine hKx _ _ ?_
        clear hKx
        go_wp2_with fail
        go_roundw
        case rel => exact ⟨k + 1, by omega, by go_num, HB8.out, av', sv', by rw [HT.out]; exact HG8.out⟩
        case measure => simp [intOf]; omega
    · have hkn : k = ps.length := by omega
      have hSG : S = G := by rw [hSd, hkn, ← HGL.out, List.take_length]
      have HFin : Hid (GotsOut w.heap.size (d + 1) wr va vc S) := Hid.intro ⟨by rw [hSG, HGL.out]; unfold maxLen; omega, av, sv, hGR⟩
      have HWF := Hid.intro hw
      have HSG := Hid.intro hSG
      clear hGR hw hSd hSG
      go_wp2_with fail
      go_ret
      exact ⟨⟨va, vc, by rw [HSG.out]; rfl, by rw [← HSG.out]; exact hvc, by rw [← HSG.out]; exact HFin.out⟩, HWF.out⟩
theorem rget_zero (la : Option Addr) (n lcap : Nat) (V : Nat → LServ) (L : List PPart) (pa : Option Addr) (pn pc : Nat) : RGetOk la n lcap V L pa pn pc 0 := by
  intro Z rv g typ key a cap ps w _ _ _ hne
  exact absurd (nil0 ps) hne
theorem rget_any (la : Option Addr) (n lcap : Nat) (V : Nat → LServ) (L : List PPart) (pa : Option Addr) (pn pc : Nat) (hR : ∀ nm, ¬ partIdx L.length (lpOf L) nm < 0 → PartR n V (pOf L nm)) : ∀ d, RGetOk la n lcap V L pa pn pc d
  | 0 => rget_zero la n lcap V L pa pn pc
  | d + 1 => rget_succ la n lcap V L pa pn pc hR d (rget_any la n lcap V L pa pn pc hR d)
end Go.Proofs.YtjjggefmmeminabGreat
