/-
  The contract of stitchref4.SameReply where both are the same, wherever they lie: true.
-/
import Derived.Test.YtjjggefmmeminabSvAnswer
import Derived.Test.YtjjggefmmeminabRefTexts
import Derived.Test.YtjjggefmmeminabSvSameReg
namespace Go.Proofs.Ytjjggefmmeminab
open Go.RowKit Go.Sort

theorem Replies.kept {w w' : World} {B base : Nat} {fv vv : Value} {N : Nat} {fnd : Nat → Bool} {Ls : Nat → List LVal} (h : Replies w B base fv vv N fnd Ls) (hB : Below w.heap.size w w') (hb : base ≤ w.heap.size) : Replies w' B base fv vv N fnd Ls :=
  ⟨h.found.kept hB, h.vals.kept hB hb, h.few⟩
theorem Replies.slices {w : World} {B base : Nat} {fv vv : Value} {N : Nat} {fnd : Nat → Bool} {Ls : Nat → List LVal} (h : Replies w B base fv vv N fnd Ls) : ∃ fa fc va vc, fv = .slice fa N fc ∧ vv = .slice va N vc ∧ N ≤ fc ∧ N ≤ vc := by
  obtain ⟨fa, fc, h1, h2⟩ := h.found.slice
  obtain ⟨sv, h3, -⟩ := h.vals
  obtain ⟨va, vc, h4, h5⟩ := h3.slice
  exact ⟨fa, fc, va, vc, h1, h4, h2, h5⟩
/-- What lies at a key's number. -/
theorem Replies.at {w : World} {B base N fc vc : Nat} {fa va : Option Addr} {fnd : Nat → Bool} {Ls : Nat → List LVal} (h : Replies w B base (.slice fa N fc) (.slice va N vc) N fnd Ls) {j : Nat} (hj : j < N) :
    ∃ gf gv sa sc U, fa = some ⟨gf, 0, none⟩ ∧ va = some ⟨gv, 0, none⟩ ∧ w.cell? ⟨gf, j, none⟩ = some (.bool (fnd j)) ∧ w.cell? ⟨gv, j, none⟩ = some (.slice sa (Ls j).length sc) ∧ (Ls j).length ≤ sc ∧ ValsAt w sa (Ls j).length U ∧ ∀ i, i < (Ls j).length → SameV (U i) (nthV (Ls j) i) := by
  obtain ⟨sv, h1, h2⟩ := h.vals
  obtain ⟨kv, h3⟩ := h2 j hj
  obtain ⟨sa, sc, U, e, h4, h5, h6⟩ := h3.valsAt (h.few j hj)
  have hF := h.found
  rcases hF.shape with ⟨-, h0⟩ | ⟨gf, cf, hf, -⟩
  · omega
  rcases h1.shape with ⟨-, h0⟩ | ⟨gv, cv, hv, -⟩
  · omega
  cases hf
  cases hv
  refine ⟨gf, gv, sa, sc, U, rfl, rfl, ?_, ?_, h4, h5, h6⟩
  · rw [hF.cell (by omega)]
  · rw [h1.cell (by omega), e]
theorem KeysAt.congr {w : World} {a : Option Addr} {n : Nat} {K G : Nat → ByteArray} (h : KeysAt w a n K) (e : ∀ j, j < n → K j = G j) : KeysAt w a n G :=
  ⟨h.1, fun i hi => by obtain ⟨b, o, ha, hf, hs⟩ := h.2 i hi; exact ⟨b, o, ha, by rw [← e i hi]; exact hf, by rw [← e i hi]; exact hs⟩⟩

set_option maxRecDepth 100000 in
set_option maxHeartbeats 4000000 in
theorem sameReply_any (B base B' base' : Nat) (fv vv fv' vv' : Value) (N : Nat) (fnd : Nat → Bool) (Ls : Nat → List LVal) (w : World) (hR : Replies w B base fv vv N fnd Ls) (hR' : Replies w B' base' fv' vv' N fnd Ls) (hb : base ≤ w.heap.size) (hb' : base' ≤ w.heap.size) (hN : N ≤ maxLen) :
    Calls Try.prog 22 #[.agg #[fv, vv], .agg #[fv', vv']] w fun e w' => e = .returned (.bool true) ∧ Below w.heap.size w w' := by
  obtain ⟨fa, fc, va, vc, rfl, rfl, -, -⟩ := hR.slices
  obtain ⟨fa', fc', va', vc', rfl, rfl, -, -⟩ := hR'.slices
  have hN' : N ≤ 9223372036854775807 := hN
  generalize hW : (w.alloc (Obj.cells #[.slice fa N fc, .slice va N vc] 46)).alloc (Obj.cells #[.slice fa' N fc', .slice va' N vc'] 46) = W
  have hB : Below w.heap.size w W := by rw [← hW]; exact below2 _ _ _
  have k0 : W.cell? ⟨w.heap.size, 0, none⟩ = some (.slice fa N fc) := by rw [← hW, World.cell?_alloc_past _ _ _ (by simp), World.cell?_alloc_at _ _ _ _ rfl]; rfl
  have k1 : W.cell? ⟨w.heap.size, 1, none⟩ = some (.slice va N vc) := by rw [← hW, World.cell?_alloc_past _ _ _ (by simp), World.cell?_alloc_at _ _ _ _ rfl]; rfl
  have q0 : W.cell? ⟨w.heap.size + 1, 0, none⟩ = some (.slice fa' N fc') := by rw [← hW, World.cell?_alloc_at _ _ _ _ (by simp)]; rfl
  have q1 : W.cell? ⟨w.heap.size + 1, 1, none⟩ = some (.slice va' N vc') := by rw [← hW, World.cell?_alloc_at _ _ _ _ (by simp)]; rfl
  have HR := Hid.intro (hR.kept hB hb)
  have HR' := Hid.intro (hR'.kept hB hb')
  have HB := Hid.intro hB
  have HBS : Hid (base ≤ W.heap.size ∧ base' ≤ W.heap.size) := ⟨Nat.le_trans hb hB.size, Nat.le_trans hb' hB.size⟩
  clear hR hR' hb hb' hB hN
  go_enter Try.func22, Try.ntmps22
  go_wp2_with fail
  clear hW
  go_loopw [37] (fun i wr => ∃ k : Nat, k ≤ N ∧ i = .int .i64 k ∧ Below W.heap.size W wr) (fun i _ => N - (intOf i).toNat)
  case atStart => exact ⟨0, Nat.zero_le _, rfl, Below.refl _ _⟩
  case round =>
    obtain ⟨k, hk, rfl, hw⟩ := hrel
    by_cases hlt : k < N
    · obtain ⟨gf, gv, sa, sc, U, rfl, rfl, f0, s0, hsc, hU, hS⟩ := (HR.out.kept hw HBS.out.1).at hlt
      obtain ⟨gf', gv', sa', sc', U', rfl, rfl, f0', s0', hsc', hU', hS'⟩ := (HR'.out.kept hw HBS.out.2).at hlt
      have hlt' : (k : Int) < (N : Int) := by omega
      have hk0 : (0 : Int) ≤ (k : Int) := by omega
      have c0 := keptCell hw k0
      have c1 := keptCell hw k1
      have d0 := keptCell hw q0
      have d1 := keptCell hw q1
      have HW := Hid.intro hw
      have HU := Hid.intro hU
      have HU' := Hid.intro hU'
      have HS := Hid.intro hS
      have HS' := Hid.intro hS'
      generalize hL : Ls k = L at *
      have hLn : L.length ≤ 9223372036854775807 := hU.1
      clear hw hU hU' hS hS' hL hsc hsc'
      go_wp2_with fail
      go_quiet (fail)
      go_wp2_with fail
      obtain ⟨Q, hQ⟩ : ∃ Q, Q = wr.drewN nq := ⟨_, rfl⟩
      have hBQ : Below wr.heap.size wr Q := by rw [hQ]; exact below_drewN _ _
      rw [← hQ]
      have HWQ : Hid (Below W.heap.size W Q) := HW.out.trans (hBQ.mono HW.out.size)
      have m1 := keptCell hBQ c1
      have n1 := keptCell hBQ d1
      have s0q := keptCell hBQ s0
      have s0q' := keptCell hBQ s0'
      have HUQ := Hid.intro (HU.out.kept hBQ)
      have HUQ' := Hid.intro (HU'.out.kept hBQ)
      clear hBQ hQ c0 c1 d0 d1 s0 s0' HU HU' HW f0 f0'
      go_loopw [72] (fun i wr => ∃ j : Nat, j ≤ L.length ∧ i = .int .i64 j ∧ Below Q.heap.size Q wr) (fun i _ => L.length - (intOf i).toNat)
      case atStart => exact ⟨0, Nat.zero_le _, rfl, Below.refl _ _⟩
      case round =>
        obtain ⟨wo, hren⟩ : ∃ wo, wo = wr := ⟨_, rfl⟩
        obtain ⟨j, hj, rfl, hw⟩ := hrel
        rw [← hren] at hw
        rw [← hren]
        clear hren
        by_cases hltj : j < L.length
        · obtain ⟨b1, o1, hsa, u0, u1, u2, -, -, -, hK1⟩ := (HUQ.out.kept hw).2 j hltj
          subst hsa
          obtain ⟨b2, o2, hsa', u0', u1', u2', -, -, -, hK2⟩ := (HUQ'.out.kept hw).2 j hltj
          subst hsa'
          have hltj' : (j : Int) < (L.length : Int) := by omega
          have hj0 : (0 : Int) ≤ (j : Int) := by omega
          obtain ⟨e1, e2, e3, e4⟩ := HS.out j hltj
          obtain ⟨e1', e2', e3', e4'⟩ := HS'.out j hltj
          have hK1' : KeysAt wo (U j).ka (nthV L j).nk (nthV L j).K := e3 ▸ hK1.congr e4
          have hK2' : KeysAt wo (U' j).ka (nthV L j).nk (nthV L j).K := e3' ▸ hK2.congr e4'
          rw [e1] at u0
          rw [e2] at u1
          rw [e3] at u2
          rw [e1'] at u0'
          rw [e2'] at u1'
          rw [e3'] at u2'
          have m1' := keptCell hw m1
          have n1' := keptCell hw n1
          have s1 := keptCell hw s0q
          have s1' := keptCell hw s0q'
          have l1 := block_lt_of_cell m1'
          have l2 := block_lt_of_cell n1'
          have l3 := block_lt_of_cell s1
          have l4 := block_lt_of_cell s1'
          have l5 := block_lt_of_cell u0
          have l6 := block_lt_of_cell u0'
          simp only at l1 l2 l3 l4 l5 l6
          have HW2 := Hid.intro hw
          have HK1 := Hid.intro hK1'
          have HK2 := Hid.intro hK2'
          clear hK1 hK2 hK1' hK2' hw e1 e2 e3 e4 e1' e2' e3' e4'
          generalize nthV L j = y at *
          go_upto_region 11 with fail
          go_cut [7, 8] from 75 to 90 (fun p p' wx => ∃ bx bx', p = .pointer (some ⟨bx, 0, none⟩) ∧ p' = .pointer (some ⟨bx', 0, none⟩) ∧ wx.heap[bx]? = some (.cells #[.string y.field, .string y.text, .slice (U j).ka y.nk (U j).kcap] 56 (0, 0)) ∧ wx.heap[bx']? = some (.cells #[.string y.field, .string y.text, .slice (U' j).ka y.nk (U' j).kcap] 56 (0, 0)) ∧ Below wo.heap.size wo wx)
          case first =>
            refine same_region (bA := w.heap.size) (bB := w.heap.size + 1) (gv := gv) (gv' := gv') (b1 := b1) (o1 := o1) (b2 := b2) (o2 := o2) (N := N) (n := L.length) (vc := vc) (vc' := vc') (sc := sc) (sc' := sc') (k := k) (j := j) (by kernel_rfl) rfl rfl rfl rfl hlt hltj m1' n1' s1 s1' u0 u1 u2 u0' u1' u2' ?_
            intro s w' bx bx' h7 h8 hx hx' hbl
            simp only [putAll, Act.put, List.setIfInBounds_toArray, List.set_cons_succ, List.set_cons_zero]
            rw [h7, h8]
            have HHX := Hid.intro hx
            have HHX' := Hid.intro hx'
            have HBL := Hid.intro hbl
            clear hx hx' hbl h7 h8
            generalize s 75 = t75
            generalize s 76 = t76
            generalize s 77 = t77
            generalize s 78 = t78
            generalize s 79 = t79
            generalize s 80 = t80
            generalize s 81 = t81
            generalize s 82 = t82
            generalize s 83 = t83
            generalize s 84 = t84
            generalize s 85 = t85
            generalize s 86 = t86
            generalize s 87 = t87
            generalize s 88 = t88
            generalize s 89 = t89
            generalize s 90 = t90
            go_wp2_with fail
            go_meet
            exact ⟨bx, bx', rfl, rfl, HHX.out, HHX'.out, HBL.out⟩
          case rest =>
            obtain ⟨bx, bx', rfl, rfl, hx, hx', hbl⟩ := hcut
            obtain ⟨y0, y1, y2⟩ : wc.cell? ⟨bx, 0, none⟩ = some (.string y.field) ∧ wc.cell? ⟨bx, 1, none⟩ = some (.string y.text) ∧ wc.cell? ⟨bx, 2, none⟩ = some (.slice (U j).ka y.nk (U j).kcap) := by simp [World.cell?, hx]
            obtain ⟨z0, z1, z2⟩ : wc.cell? ⟨bx', 0, none⟩ = some (.string y.field) ∧ wc.cell? ⟨bx', 1, none⟩ = some (.string y.text) ∧ wc.cell? ⟨bx', 2, none⟩ = some (.slice (U' j).ka y.nk (U' j).kcap) := by simp [World.cell?, hx']
            have hcl := sameTexts_any (U j).ka (U' j).ka y.nk (U j).kcap (U' j).kcap y.K wc (HK1.out.kept hbl) (HK2.out.kept hbl)
            have HBL := Hid.intro hbl
            clear hx hx' hbl
            go_wp2_with fail
            refine hcl.mono ?_
            clear hcl
            rintro e w6 ⟨rfl, hw6⟩
            have HEND : Hid (Below Q.heap.size Q w6) := HW2.out.trans ((HBL.out.trans (hw6.mono HBL.out.size)).mono HW2.out.size)
            clear hw6 y0 y1 y2 z0 z1 z2
            go_wp2_with fail
            go_roundw
            case rel => exact ⟨j + 1, by omega, by go_num, HEND.out⟩
            case measure => simp [intOf]; omega
        · have HW2 := Hid.intro hw
          clear hw
          go_wp2_with fail
          go_roundw
          case rel => exact ⟨k + 1, by omega, by go_num, HWQ.out.trans (HW2.out.mono HWQ.out.size)⟩
          case measure => simp [intOf]; omega
    · have HW := Hid.intro hw
      clear hw
      go_wp2_with fail
      go_ret
      exact ⟨rfl, HB.out.trans (HW.out.mono HB.out.size)⟩
end Go.Proofs.Ytjjggefmmeminab
