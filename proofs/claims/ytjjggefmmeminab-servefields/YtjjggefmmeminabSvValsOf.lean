/-
  The contract of serve.valsOf: the thing's vals, field by field, each with keys of its own.
-/
import Derived.Test.YtjjggefmmeminabSvVals
import Derived.WalkSpells
namespace Go.Proofs.Ytjjggefmmeminab
open Go.RowKit Go.Sort

def thingV (x : LThing) : Value := .agg #[.string x.type, .string x.key, .slice x.va x.nv x.vcap]

theorem valsTo_le {x : LThing} {nf k j : Nat} {F : Nat → ByteArray} (hF : ∀ i, i < nf → stood F i = false) (hk : k < nf) (hj : j ≤ x.nv) : (valsL x k F ++ valsTo x (F k) j).length ≤ x.nv := by
  have h1 := valsTo_few x (F k) hj
  have h2 := valsL_mono x F (k := k + 1) (m := nf) (by omega)
  have h3 := valsL_few (x := x) hF
  rw [valsL_succ, List.length_append] at h2
  rw [List.length_append]
  omega

/-- append([]string(nil), l...) -/
theorem copyKeys {w : World} {B : Nat} (hB : B ≤ w.heap.size) {a : Option Addr} {n cap : Nat} {K : Nat → ByteArray} (h : KeysAt w a n K) (hn : n * 16 ≤ 140737488355328) (ty : TypeId) :
    ∃ u w', (Builtin.append_ #[40, 40] ty #[.slice none 0 0, .slice a n cap]).run Try.prog w = .ok u w' ∧ Row w' B 9 1 u n (textCell K) ∧ Below w.heap.size w w' := by
  obtain ⟨iS, si, sz0, sz1, sz2⟩ := info_parts' Try.info9
  have h0 : Row w B 9 1 (.slice none 0 0) 0 (textCell K) := World.ownsRow_nil _ _ _ _
  obtain ⟨u, w', h1, h2, h3, -⟩ := h0.far 40 ty iS _ 16 Try.underlying40 si sz0 sz1 sz2 rfl (by decide) a n cap (textCell K) (fun j hj => by
    obtain ⟨b, o, e, hc, -⟩ := h.2 j (by omega)
    exact ⟨b, o, e, hc⟩) (fun e => by
    by_cases h0 : n = 0
    · exact h0
    · obtain ⟨b, o, e', -⟩ := h.2 0 (by omega)
      rw [e] at e'; cases e') (fun _ _ => rfl) (by have := h.1; omega) (by omega) hB
  refine ⟨u, w', h1, ?_, ⟨h3.os, h3.tape, h3.output, h3.size, fun k hk => h3.block k hk (by simp [Value.ownBlock])⟩⟩
  rw [Nat.zero_add] at h2
  exact h2.congr fun j _ => by simp

set_option maxRecDepth 100000 in
set_option maxHeartbeats 4000000 in
theorem valsOf_any (x : LThing) (fa : Option Addr) (nf fcap : Nat) (F : Nat → ByteArray) (w : World) (hX : ValsAt w x.va x.nv x.V) (hL : LightX x) (hF : KeysAt w fa nf F) (hD : ∀ i, i < nf → stood F i = false) (base : Nat) (hbase : base ≤ w.heap.size) :
    Calls Try.prog 39 #[thingV x, .slice fa nf fcap] w fun e w' => ∃ v kv, e = .returned v ∧ ValRows w' w.heap.size base v (valsL x nf F) kv ∧ Below w.heap.size w w' := by
  obtain ⟨iV, vi, vz0, vz1, vz2⟩ := info_parts' Try.info56
  obtain ⟨iS, si, sz0, sz1, sz2⟩ := info_parts' Try.info9
  have hnf : nf ≤ 9223372036854775807 := hF.1
  have hnv : x.nv ≤ 9223372036854775807 := hX.1
  have hl1 := hL.1
  unfold thingV
  obtain ⟨va, hva⟩ : ∃ va, va = x.va := ⟨_, rfl⟩
  rw [← hva] at hX
  rw [← hva]
  clear hva
  generalize hW : w.alloc (Obj.cells #[.string x.type, .string x.key, .slice va x.nv x.vcap] 90) = W
  have hB : Below w.heap.size w W := by rw [← hW]; exact below1 _ _
  have hWs : w.heap.size < W.heap.size := by rw [← hW]; simp
  have k2 : W.cell? ⟨w.heap.size, 2, none⟩ = some (.slice va x.nv x.vcap) := by rw [← hW, World.cell?_alloc_at _ _ _ _ rfl]; rfl
  have HX := Hid.intro (hX.kept hB)
  have HF := Hid.intro (hF.kept hB)
  have HL := Hid.intro hL
  have HD := Hid.intro hD
  have HB := Hid.intro hB
  clear hX hL hF hD hB
  go_enter Try.func39, Try.ntmps39
  go_wp2_with fail
  clear hW
  go_loopw [5, 12] (fun v i wr => ∃ k : Nat, k ≤ nf ∧ i = .int .i64 k ∧ (∃ kv, ValRows wr W.heap.size base v (valsL x k F) kv) ∧ Below W.heap.size W wr) (fun _ i _ => nf - (intOf i).toNat)
  case atStart => exact ⟨0, Nat.zero_le _, rfl, ⟨fun _ => .slice none 0 0, valRows_nil _ _ _ _⟩, Below.refl _ _⟩
  case round =>
    obtain ⟨k, hk, rfl, ⟨kv, hR⟩, hw⟩ := hrel
    by_cases hlt : k < nf
    · obtain ⟨b, o, rfl, f0, -⟩ := (HF.out.kept hw).2 k hlt
      have hlt' : (k : Int) < (nf : Int) := by omega
      have hk0 : (0 : Int) ≤ (k : Int) := by omega
      have t2 := keptCell hw k2
      have HR := Hid.intro hR
      have HW := Hid.intro hw
      clear hR hw
      go_wp2_with fail
      obtain ⟨wo, hren⟩ : ∃ wo, wo = wr := ⟨_, rfl⟩
      rw [← hren] at HR HW
      rw [← hren]
      clear hren f0 t2
      go_loopw [5, 19] (fun v i wr => ∃ j : Nat, j ≤ x.nv ∧ i = .int .i64 j ∧ (∃ kv, ValRows wr W.heap.size base v (valsL x k F ++ valsTo x (F k) j) kv) ∧ Below W.heap.size W wr) (fun _ i _ => x.nv - (intOf i).toNat)
      case atStart => exact ⟨0, Nat.zero_le _, rfl, ⟨kv, by show ValRows _ _ _ _ (valsL x k F ++ []) kv; rw [List.append_nil]; exact HR.out⟩, HW.out⟩
      case round =>
        obtain ⟨j, hj, rfl, ⟨kv2, hR⟩, hw⟩ := hrel
        by_cases hltj : j < x.nv
        · obtain ⟨b2, o2, hv2, v0, v1, v2, hcap, s1, s2, hKs⟩ := (HX.out.kept hw).2 j hltj
          subst hv2
          have hltj' : (j : Int) < (x.nv : Int) := by omega
          have hj0 : (0 : Int) ≤ (j : Int) := by omega
          generalize hX1 : wr.alloc (Obj.cells #[.string (x.V j).field, .string (x.V j).text, .slice (x.V j).ka (x.V j).nk (x.V j).kcap] 56) = X1
          have hB1 : Below wr.heap.size wr X1 := by rw [← hX1]; exact below1 _ _
          have b0 : X1.cell? ⟨wr.heap.size, 0, none⟩ = some (.string (x.V j).field) := by rw [← hX1, World.cell?_alloc_at _ _ _ _ rfl]; rfl
          have b1 : X1.cell? ⟨wr.heap.size, 1, none⟩ = some (.string (x.V j).text) := by rw [← hX1, World.cell?_alloc_at _ _ _ _ rfl]; rfl
          have b2 : X1.cell? ⟨wr.heap.size, 2, none⟩ = some (.slice (x.V j).ka (x.V j).nk (x.V j).kcap) := by rw [← hX1, World.cell?_alloc_at _ _ _ _ rfl]; rfl
          have z2 : X1.frozen? ⟨wr.heap.size, 2, none⟩ = false := by rw [← hX1]; exact World.frozen?_alloc_at _ _ _ _ rfl
          have hz : wr.heap.size < X1.heap.size := by rw [← hX1]; simp
          have HR2 := Hid.intro hR
          have HW2 := Hid.intro hw
          have HB1 := Hid.intro hB1
          have HKs := Hid.intro (hKs.kept hB1)
          have HSm := Hid.intro (And.intro s1 s2)
          have hW1 : W.heap.size ≤ wr.heap.size := hw.size
          clear hR hw hB1 hKs s1 s2 hcap
          cases he : ((x.V j).field.toList == (F k).toList)
          · have HV : Hid (valsTo x (F k) (j + 1) = valsTo x (F k) j) := valsTo_miss (by rw [← eqs_eq]; exact he)
            go_wp2_with fail
            clear hX1
            go_roundw
            case rel => exact ⟨j + 1, by omega, by go_num, ⟨kv2, by rw [HV.out]; exact HR2.out.kept HB1.out (by omega)⟩, HW2.out.trans (HB1.out.mono hW1)⟩
            case measure => simp [intOf]; omega
          · have HV : Hid (valsTo x (F k) (j + 1) = valsTo x (F k) j ++ [x.V j]) := valsTo_hit (by rw [← eqs_eq]; exact he)
            have hap := copyKeys (w := X1) (B := X1.heap.size) (cap := (x.V j).kcap) (Nat.le_refl _) HKs.out (HL.out.2 j hltj)
            go_wp2_with (at_builtin; refine wpList_append_run _ rfl _ _ 40 rfl _ _ rfl rfl (fun u w' => Row w' X1.heap.size 9 1 u (x.V j).nk (textCell (x.V j).K) ∧ Below X1.heap.size X1 w') hap ?_)
            intro u w2 hRu hB2
            obtain ⟨ua, uc, rfl, -⟩ := hRu.slice
            clear hap hX1
            have c0 := keptCell hB2 b0
            have c1 := keptCell hB2 b1
            have c2 := keptCell hB2 b2
            have y2 := (hB2.frozen (p := ⟨wr.heap.size, 2, none⟩) hz).trans z2
            have HRu := Hid.intro hRu
            have HB2 := Hid.intro hB2
            clear hRu hB2 b0 b1 b2 z2
            obtain ⟨X3, hX3⟩ : ∃ X3, X3 = w2.setCell ⟨wr.heap.size, 2, none⟩ (.slice ua (x.V j).nk uc) := ⟨_, rfl⟩
            have hB3 : Below wr.heap.size wr X3 := by
              rw [hX3]
              exact (HB1.out.trans (HB2.out.mono (Nat.le_of_lt hz))).trans ⟨rfl, rfl, rfl, by simp, fun k hk => Below.heap_setCell _ _ _ _ (by show k ≠ wr.heap.size; omega)⟩
            have hzx : X1.heap.size ≤ X3.heap.size := by rw [hX3]; have := HB2.out.size; simpa using this
            have HRx : Hid (Row X3 X1.heap.size 9 1 (.slice ua (x.V j).nk uc) (x.V j).nk (textCell (x.V j).K)) := by
              rw [hX3]
              exact HRu.out.set_other (p := ⟨wr.heap.size, 2, none⟩) (fun e => by have := (HRu.out.lt e).1; simp at this; omega) _
            have HR3 := Hid.intro (HR2.out.kept hB3 (by omega))
            have HB3 : Hid (Below W.heap.size W X3) := HW2.out.trans (hB3.mono hW1)
            have hle := valsTo_le (x := x) HD.out hlt (j := j + 1) hltj
            rw [HV.out, ← List.append_assoc, List.length_append] at hle
            have hap := Row.one #[.string (x.V j).field, .string (x.V j).text, .slice ua (x.V j).nk uc] HR3.out.row (Nat.le_trans hW1 (by omega)) 54 iV _ 56 Try.underlying54 vi vz0 vz1 vz2 rfl (by decide) (cellOf (x.V j) (.slice ua (x.V j).nk uc)) (fun i hi => by
              match i, hi with
              | 0, _ => rfl
              | 1, _ => rfl
              | 2, _ => rfl) (fun i _ => cellOf_one rfl i) (by simp only [List.length_cons, List.length_nil] at hle; unfold maxLen; omega) (by simp only [List.length_cons, List.length_nil] at hle; omega) (m := w2.heap.size) (by rw [hX3]; simp)
            rw [hX3] at hap
            have HX3 := Hid.intro hX3
            clear hB3 hle HB1 HB2 HRu HR2 hX3
            go_wp2_with (at_builtin; refine wpList_append_run _ rfl _ _ 54 rfl _ _ rfl rfl (fun v' w' => Row w' W.heap.size 56 3 v' ((valsL x k F ++ valsTo x (F k) j).length + 1) _ ∧ World.grownBy _ w' u5.ownBlock) hap ?_)
            intro v' w6 hrow hg
            have HE : Hid (ValRows w6 W.heap.size base v' (valsL x k F ++ valsTo x (F k) j ++ [x.V j]) (fun i => if i = (valsL x k F ++ valsTo x (F k) j).length then .slice ua (x.V j).nk uc else kv2 i) ∧ Below W.heap.size W w6) := by
              rw [← HX3.out] at hg
              rw [← List.length_append] at hrow
              have hA := below1 X3 (Obj.cells #[.string (x.V j).field, .string (x.V j).text, .slice ua (x.V j).nk uc] 56)
              have hb0 : W.heap.size ≤ X3.heap.size := HB3.out.size
              refine ⟨(HR3.out.kept hA (by omega)).snoc (by omega) (by simp; omega) HSm.out ((HRx.out.kept hA).stays (HKs.out.1) (fun i hi => by obtain ⟨_, _, _, _, h⟩ := HKs.out.2 i hi; exact h) _) hrow hg, ?_⟩
              exact (HB3.out.trans (hA.mono hb0)).grown hg (by simp; omega) (fun k' hk' => (HR3.out.row.lt hk').1)
            clear hrow hg hap
            go_wp2_with fail
            go_roundw
            case rel => exact ⟨j + 1, by omega, by go_num, ⟨_, by rw [HV.out, ← List.append_assoc]; exact HE.out.1⟩, HE.out.2⟩
            case measure => simp [intOf]; omega
        · have hjn : j = x.nv := by omega
          subst hjn
          have HR2 := Hid.intro hR
          have HW2 := Hid.intro hw
          have HV : Hid (valsL x (k + 1) F = valsL x k F ++ valsTo x (F k) x.nv) := valsL_succ x k F
          clear hR hw
          go_wp2_with fail
          go_roundw
          case rel => exact ⟨k + 1, by omega, by go_num, ⟨kv2, by rw [HV.out]; exact HR2.out⟩, HW2.out⟩
          case measure => simp [intOf]; omega
    · have hkn : k = nf := by omega
      subst hkn
      have HR := Hid.intro hR
      have HW := Hid.intro hw
      clear hR hw
      go_wp2_with fail
      go_ret
      exact ⟨_, kv, rfl, HR.out.lower (Nat.le_of_lt hWs), HB.out.trans (HW.out.mono HB.out.size)⟩
end Go.Proofs.Ytjjggefmmeminab
