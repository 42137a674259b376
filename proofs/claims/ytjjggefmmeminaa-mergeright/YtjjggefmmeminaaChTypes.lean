import Derived.Test.YtjjggefmmeminaaJCh
/-
  The contract of change.Types: the schema that is seen, in memory of the call's own.
-/
namespace Go.Proofs.Ytjjggefmmeminaa
open Go.RowKit Go.Sort

def typesOf (S : Nat → PSeen) (A : Nat → Option Addr) (C : Nat → Nat) (i : Nat) : LType := ⟨(S i).name, A i, (S i).nf, C i, (S i).F⟩

/-- What a round of Types leaves. -/
theorem types_step {w w1 w3 : World} {base k : Nat} {v v' : Value} {S : Nat → PSeen} {A : Nat → Option Addr} {C : Nat → Nat} {a : Option Addr} {cap : Nat} {X : Obj} (hv : Row w base 34 2 v k (typeCell (typesOf S A C)))
    (hf : ∀ i, i < k → (S i).nf ≤ C i ∧ Row w base 79 3 (.slice (A i) (S i).nf (C i)) (S i).nf (fieldCell (S i).F)) (hb : Below w.heap.size w w1) (hcap : (S k).nf ≤ cap) (hn : Row w1 base 79 3 (.slice a (S k).nf cap) (S k).nf (fieldCell (S k).F))
    (hg : (w1.alloc X).grownBy w3 v.ownBlock) (hr : w3.ownsRow base 34 2 v' (k + 1) ((List.range (k * 2)).map (typeCell (typesOf S A C)) ++ [.string (S k).name, .slice a (S k).nf cap])) :
    Row w3 base 34 2 v' (k + 1) (typeCell (typesOf S (fun i => if i = k then a else A i) (fun i => if i = k then cap else C i))) ∧
    ∀ i, i < k + 1 → (S i).nf ≤ (if i = k then cap else C i) ∧ Row w3 base 79 3 (.slice (if i = k then a else A i) (S i).nf (if i = k then cap else C i)) (S i).nf (fieldCell (S i).F) := by
  have hv1 : Row (w1.alloc X) base 34 2 v k (typeCell (typesOf S A C)) := (hv.kept hb).kept (below1 _ _)
  refine ⟨?_, fun i hi => ?_⟩
  · have e := typeCells_succ (typesOf S (fun i => if i = k then a else A i) (fun i => if i = k then cap else C i)) k
    have e2 : typeCells (typesOf S (fun i => if i = k then a else A i) (fun i => if i = k then cap else C i)) k = typeCells (typesOf S A C) k := typeCells_congr fun i hi => by
      unfold typesOf; simp [show ¬ i = k by omega]
    unfold Row
    show w3.ownsRow base 34 2 v' (k + 1) (typeCells _ (k + 1))
    rw [e, e2]
    unfold typesOf
    simp only [if_pos]
    exact hr
  · by_cases e : i = k
    · subst e
      rw [if_pos rfl, if_pos rfl]
      have h1 : Row (w1.alloc X) base 79 3 (.slice a (S i).nf cap) (S i).nf (fieldCell (S i).F) := hn.kept (below1 _ _)
      exact ⟨hcap, h1.grown hg fun k' hk' => h1.ne hv1 (by decide) hk'⟩
    · rw [if_neg e, if_neg e]
      obtain ⟨q1, q2⟩ := hf i (by omega)
      have h1 := (q2.kept hb).kept (below1 w1 X)
      exact ⟨q1, h1.grown hg fun k' hk' => h1.ne hv1 (by decide) hk'⟩

/-- These types are what is seen. -/
def TypesAre (n : Nat) (T : Nat → LType) (S : Nat → PSeen) : Prop := ∀ i, i < n → (T i).name = (S i).name ∧ (T i).nf = (S i).nf ∧ (T i).F = (S i).F

set_option maxRecDepth 100000 in
set_option maxHeartbeats 1000000 in
theorem types_any (base n : Nat) (v : Value) (fv ov : Nat → Value) (S : Nat → PSeen) (w : World) (hS : Seens w base v n fv ov S) (hn : n ≤ 1000) (hnf : ∀ i, i < n → (S i).nf ≤ 1000) :
    Calls Try.prog 30 #[v] w fun e w' => (∃ a cap T, e = .returned (.slice a n cap) ∧ n ≤ cap ∧ TypesAt w' a n T ∧ TypesAre n T S) ∧ Below w.heap.size w w' := by
  obtain ⟨i0, hi, hz0, hz1, hz2⟩ := info_parts' Try.info34
  have HS : Hid (Seens w base v n fv ov S) := hS
  obtain ⟨a, cap, rfl, hcap⟩ := hS.slice
  have HNF : Hid (∀ i, i < n → (S i).nf ≤ 1000) := hnf
  clear hS hnf
  go_enter Try.func30, Try.ntmps30
  go_wp2_with fail
  go_loopw [3, 8] (fun v i wr => ∃ k : Nat, k ≤ n ∧ i = .int .i64 k ∧ Below w.heap.size w wr ∧ ∃ A C, Row wr w.heap.size 34 2 v k (typeCell (typesOf S A C)) ∧ ∀ i, i < k → (S i).nf ≤ C i ∧ Row wr w.heap.size 79 3 (.slice (A i) (S i).nf (C i)) (S i).nf (fieldCell (S i).F)) (fun _ i _ => n - (intOf i).toNat)
  case atStart => exact ⟨0, Nat.zero_le _, rfl, Below.refl _ _, fun _ => none, fun _ => 0, World.ownsRow_nil _ _ _ _, fun i hi => absurd hi (Nat.not_lt_zero _)⟩
  case round =>
    obtain ⟨k, hk, rfl, hw, A, C, hrow, hfs⟩ := hrel
    by_cases hlt : k < n
    · have hSr := HS.out.kept hw
      obtain ⟨g, cap', hv, -, -⟩ := hSr.ptr hlt
      cases hv
      obtain ⟨k0, k1, k2, k3⟩ := hSr.cells hlt
      have hgood := hSr.good k hlt
      obtain ⟨a1, c1, e1, hc1, hFA⟩ := (hSr.fields k hlt).fieldsAt hgood.2.2.1 hgood.2.2.2.1
      obtain ⟨a2, c2, e2, -⟩ := (hSr.owns k hlt).slice
      rw [e1] at k1
      rw [e2] at k3
      have hlt' : (k : Int) < (n : Int) := by omega
      have hk0 : (0 : Int) ≤ (k : Int) := by omega
      generalize hW : wr.alloc (Obj.cells #[.string (S k).name, .slice a1 (S k).nf c1, .string (S k).own, .slice a2 (S k).nf c2] 55) = W
      have hB : Below wr.heap.size wr W := by rw [← hW]; exact below1 _ _
      have m0 : W.cell? ⟨wr.heap.size, 0, none⟩ = some (.string (S k).name) := by rw [← hW, World.cell?_alloc_at _ _ _ _ rfl]; rfl
      have m1 : W.cell? ⟨wr.heap.size, 1, none⟩ = some (.slice a1 (S k).nf c1) := by rw [← hW, World.cell?_alloc_at _ _ _ _ rfl]; rfl
      have hcl := copyType_any (S k).name a1 (S k).nf c1 (S k).F W (hFA.kept hB) (HNF.out k hlt)
      have HBW : Hid (Below wr.heap.size wr W) := hB
      have HW : Hid (Below w.heap.size w wr) := hw
      have HR : Hid (Row wr w.heap.size 34 2 _ k (typeCell (typesOf S A C))) := hrow
      have HFS : Hid (∀ i, i < k → (S i).nf ≤ C i ∧ Row wr w.heap.size 79 3 (.slice (A i) (S i).nf (C i)) (S i).nf (fieldCell (S i).F)) := hfs
      have hzr : w.heap.size ≤ wr.heap.size := hw.size
      clear hSr hgood hFA e1 e2 hB hw hrow hfs
      go_wp2_with fail
      clear hW
      refine hcl.mono ?_
      clear hcl
      rintro e w1 ⟨⟨a3, c3, rfl, hc3, hr3⟩, hb1⟩
      have hb2 : Below wr.heap.size wr w1 := HBW.out.trans (hb1.mono HBW.out.size)
      have HB2 : Hid (Below wr.heap.size wr w1) := hb2
      have HB3 : Hid (Below w.heap.size w w1) := HW.out.trans (hb2.mono hzr)
      have HR3 : Hid (Row w1 w.heap.size 79 3 (.slice a3 (S k).nf c3) (S k).nf (fieldCell (S k).F)) := hr3.base (by have := HBW.out.size; omega)
      have HO : Hid (Row (w1.alloc (Obj.cells #[.string (S k).name, .slice a3 (S k).nf c3] 34)) w.heap.size 34 2 _ k (typeCell (typesOf S A C))) := (HR.out.kept hb2).kept (below1 _ _)
      have HL : Hid (∀ k', Value.ownBlock _ = some k' → w.heap.size ≤ k') := fun k' hk' => (HR.out.lt hk').1
      have hzw : w.heap.size ≤ w1.heap.size := HB3.out.size
      clear hb1 hb2 hr3 m0 m1 k0 k1 k2 k3
      go_wp2_with (at_builtin; refine wpList_append_any _ rfl _ _ 22 rfl w.heap.size 34 i0 _ 2 40 Try.underlying22 hi hz0 hz1 hz2 rfl (by decide) _ k _ rfl HO.out (some ⟨w1.heap.size, 0, none⟩) 1 1 [.string (S k).name, .slice a3 (S k).nf c3] rfl rfl ?c1 (fun h => by cases h) ?c2 (by unfold maxLen; omega) (by omega) (by simp; omega) ?_)
      case c1 =>
        intro ad had j u hu
        cases had
        rw [WideShapes.add_plain]
        match j, hu with
        | 0, hu => simp at hu; subst hu; rw [World.cell?_alloc_at _ _ _ _ rfl]; rfl
        | 1, hu => simp at hu; subst hu; rw [World.cell?_alloc_at _ _ _ _ rfl]; rfl
      case c2 =>
        intro u hu
        simp at hu
        rcases hu with rfl | rfl <;> rfl
      intro v2 w6 hown2 hg2 _
      have hst := types_step HR.out HFS.out HB2.out hc3 HR3.out hg2 hown2
      have HST : Hid _ := hst
      have HB6 : Hid (Below w.heap.size w w6) := (HB3.out.trans ((below1 w1 _).mono hzw)).grown hg2 (by simp; omega) (fun k' hk' => HL.out k' hk')
      clear hst hown2 hg2 HO HL HBW HB2 HB3 HR HFS HR3 HW
      go_wp2_with fail
      go_roundw
      case rel => exact ⟨k + 1, by omega, by go_num, HB6.out, _, _, HST.out.1, HST.out.2⟩
      case measure => simp [intOf]; omega
    · have hkn : k = n := by omega
      subst hkn
      obtain ⟨a5, cap5, rfl, hc5, hT5⟩ := owns_types (T := typesOf S A C) hrow (by unfold maxLen; omega) (fun i hi => by
        obtain ⟨q1, q2⟩ := hfs i hi
        have hgood := HS.out.good i hi
        obtain ⟨a6, c6, e6, -, hFA⟩ := q2.fieldsAt hgood.2.2.1 hgood.2.2.2.1
        cases e6
        exact ⟨q1, hgood.1, hFA⟩)
      have HT5 : Hid (TypesAt wr a5 k (typesOf S A C)) := hT5
      have HBW : Hid (Below w.heap.size w wr) := hw
      clear hT5 hrow hw hfs
      go_wp2_with fail
      go_ret
      exact ⟨⟨a5, cap5, _, rfl, hc5, HT5.out, fun i _ => ⟨rfl, rfl, rfl⟩⟩, HBW.out⟩
end Go.Proofs.Ytjjggefmmeminaa
