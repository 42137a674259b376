/-
  'x, y := a.Vals[i][k], b.Vals[i][k]' in stitchref4.SameReply, in whatever order.
-/
import Derived.Test.YtjjggefmmeminabRegAs
import Derived.Test.YtjjggefmmeminabSvAnswer
namespace Go.Proofs.Ytjjggefmmeminab
open Go.RowKit Go.Sort

/-- The statement's operations, as the translation has them. -/
def same11 : List Oper := [
  { dst := some 75, op := Op.fieldAddr 46 (Operand.tmp 2) 1, type := 0, pos := "ref.go:322", after := #[], guard := none },
   { dst := some 76, op := Op.load 44 (Operand.tmp 75), type := 44, pos := "ref.go:322", after := #[{ on := 0, ground := Ground.data }], guard := none },
   { dst := some 77, op := Op.move (Operand.tmp 5), type := 3, pos := "ref.go:322", after := #[], guard := none },
   { dst := some 78, op := Op.indexAddr 44 (Operand.tmp 76) (Operand.tmp 77), type := 0, pos := "ref.go:322", after := #[{ on := 1, ground := Ground.data }, { on := 2, ground := Ground.data }], guard := none },
   { dst := some 79, op := Op.load 54 (Operand.tmp 78), type := 54, pos := "ref.go:322", after := #[{ on := 3, ground := Ground.data }], guard := none },
   { dst := some 80, op := Op.move (Operand.tmp 6), type := 3, pos := "ref.go:322", after := #[], guard := none },
   { dst := some 81, op := Op.indexAddr 54 (Operand.tmp 79) (Operand.tmp 80), type := 0, pos := "ref.go:322", after := #[{ on := 4, ground := Ground.data }, { on := 5, ground := Ground.data }], guard := none },
   { dst := some 82, op := Op.load 56 (Operand.tmp 81), type := 56, pos := "ref.go:322", after := #[{ on := 6, ground := Ground.data }], guard := none },
   { dst := some 83, op := Op.fieldAddr 46 (Operand.tmp 3) 1, type := 0, pos := "ref.go:322", after := #[{ on := 18, ground := Ground.gcOnly Departure.lateStores }], guard := none },
   { dst := some 84, op := Op.load 44 (Operand.tmp 83), type := 44, pos := "ref.go:322", after := #[{ on := 8, ground := Ground.data }, { on := 18, ground := Ground.gcOnly Departure.lateStores }], guard := none },
   { dst := some 85, op := Op.move (Operand.tmp 5), type := 3, pos := "ref.go:322", after := #[{ on := 18, ground := Ground.gcOnly Departure.lateStores }], guard := none },
   { dst := some 86, op := Op.indexAddr 44 (Operand.tmp 84) (Operand.tmp 85), type := 0, pos := "ref.go:322", after := #[{ on := 9, ground := Ground.data }, { on := 10, ground := Ground.data }, { on := 18, ground := Ground.gcOnly Departure.lateStores }], guard := none },
   { dst := some 87, op := Op.load 54 (Operand.tmp 86), type := 54, pos := "ref.go:322", after := #[{ on := 11, ground := Ground.data }, { on := 18, ground := Ground.gcOnly Departure.lateStores }], guard := none },
   { dst := some 88, op := Op.move (Operand.tmp 6), type := 3, pos := "ref.go:322", after := #[{ on := 18, ground := Ground.gcOnly Departure.lateStores }], guard := none },
   { dst := some 89, op := Op.indexAddr 54 (Operand.tmp 87) (Operand.tmp 88), type := 0, pos := "ref.go:322", after := #[{ on := 12, ground := Ground.data }, { on := 13, ground := Ground.data }, { on := 18, ground := Ground.gcOnly Departure.lateStores }], guard := none },
   { dst := some 90, op := Op.load 56 (Operand.tmp 89), type := 56, pos := "ref.go:322", after := #[{ on := 14, ground := Ground.data }, { on := 18, ground := Ground.gcOnly Departure.lateStores }], guard := none },
   { dst := some 7, op := Op.alloc 56, type := 0, pos := "ref.go:322", after := #[], guard := none },
   { dst := some 8, op := Op.alloc 56, type := 0, pos := "ref.go:322", after := #[], guard := none },
   { dst := none, op := Op.store 56 (Operand.tmp 7) (Operand.tmp 82), type := 0, pos := "ref.go:322", after := #[{ on := 16, ground := Ground.data }, { on := 7, ground := Ground.data }, { on := 0, ground := Ground.phase }, { on := 1, ground := Ground.phase }, { on := 2, ground := Ground.phase }, { on := 3, ground := Ground.phase }, { on := 4, ground := Ground.phase }, { on := 5, ground := Ground.phase }, { on := 6, ground := Ground.phase }, { on := 7, ground := Ground.phase }, { on := 8, ground := Ground.textOnly Departure.lateStores }, { on := 9, ground := Ground.textOnly Departure.lateStores }, { on := 10, ground := Ground.textOnly Departure.lateStores }, { on := 11, ground := Ground.textOnly Departure.lateStores }, { on := 12, ground := Ground.textOnly Departure.lateStores }, { on := 13, ground := Ground.textOnly Departure.lateStores }, { on := 14, ground := Ground.textOnly Departure.lateStores }, { on := 15, ground := Ground.textOnly Departure.lateStores }, { on := 16, ground := Ground.phase }, { on := 17, ground := Ground.phase }], guard := none },
   { dst := none, op := Op.store 56 (Operand.tmp 8) (Operand.tmp 90), type := 0, pos := "ref.go:322", after := #[{ on := 17, ground := Ground.data }, { on := 15, ground := Ground.data }, { on := 18, ground := Ground.chain }, { on := 0, ground := Ground.phase }, { on := 1, ground := Ground.phase }, { on := 2, ground := Ground.phase }, { on := 3, ground := Ground.phase }, { on := 4, ground := Ground.phase }, { on := 5, ground := Ground.phase }, { on := 6, ground := Ground.phase }, { on := 7, ground := Ground.phase }, { on := 8, ground := Ground.phase }, { on := 9, ground := Ground.phase }, { on := 10, ground := Ground.phase }, { on := 11, ground := Ground.phase }, { on := 12, ground := Ground.phase }, { on := 13, ground := Ground.phase }, { on := 14, ground := Ground.phase }, { on := 15, ground := Ground.phase }, { on := 16, ground := Ground.phase }, { on := 17, ground := Ground.phase }, { on := 18, ground := Ground.phase }], guard := none }]
def zV : Array Value := #[.string ⟨#[]⟩, .string ⟨#[]⟩, .slice none 0 0]
def sG (w5 : World) (csA csB : Array Value) (L : Nat → Bool) (s : Nat → Value) (w : World) : Prop :=
  Below w5.heap.size w5 w ∧ (L 16 = true → ∃ b, s 7 = .pointer (some ⟨b, 0, none⟩) ∧ w5.heap.size ≤ b ∧ w.heap[b]? = some (.cells (if L 18 then csA else zV) 56 (0, 0))) ∧
  (L 17 = true → ∃ b, s 8 = .pointer (some ⟨b, 0, none⟩) ∧ w5.heap.size ≤ b ∧ w.heap[b]? = some (.cells (if L 19 then csB else zV) 56 (0, 0))) ∧ (L 16 = true → L 17 = true → s 7 ≠ s 8)
theorem also_ne {L : Nat → Bool} {i k : Nat} (h : k ≠ i) : also L i k = L k := by unfold also; simp [h]
theorem also_eq {L : Nat → Bool} {i : Nat} : also L i i = true := by unfold also; simp
theorem updS_ne {s : Nat → Value} {d k : Nat} {v : Value} (h : k ≠ d) : updS s (some d) v k = s k := by show (if k = d then v else s k) = s k; rw [if_neg h]
theorem updS_eq {s : Nat → Value} {d : Nat} {v : Value} : updS s (some d) v d = v := by show (if d = d then v else s d) = v; rw [if_pos rfl]
theorem sG_pure {w5 : World} {csA csB : Array Value} {L : Nat → Bool} {s : Nat → Value} {w : World} (h : sG w5 csA csB L s w) {i d : Nat} (hi : i ≠ 16 ∧ i ≠ 17 ∧ i ≠ 18 ∧ i ≠ 19) (hd : d ≠ 7 ∧ d ≠ 8) (v : Value) : sG w5 csA csB (also L i) (updS s (some d) v) w := by
  unfold sG at *
  rw [also_ne hi.1.symm, also_ne hi.2.1.symm, also_ne hi.2.2.1.symm, also_ne hi.2.2.2.symm, updS_ne hd.1.symm, updS_ne hd.2.symm]
  exact h
def sA (vals : List Value) (_ : Nat → Bool) (k : Nat) (x : Value) (_ : World) : Prop := if 16 ≤ k then True else x = vals.getD k undef
theorem new_block {w5 w : World} (h : Below w5.heap.size w5 w) : w5.heap.size ≤ w.heap.size := h.size
theorem heap_set3 {w : World} {b : Nat} {z0 z1 z2 x0 x1 x2 : Value} {t : Nat} (h : w.heap[b]? = some (.cells #[z0, z1, z2] t (0, 0))) : (((w.setCell ⟨b, 0, none⟩ x0).setCell ⟨b, 1, none⟩ x1).setCell ⟨b, 2, none⟩ x2).heap[b]? = some (.cells #[x0, x1, x2] t (0, 0)) := by
  have h1 := heap_setCell_same w b 0 _ t x0 h
  have h2 := heap_setCell_same _ b 1 _ t x1 h1
  have h3 := heap_setCell_same _ b 2 _ t x2 h2
  rw [h3]; rfl
theorem heap_set3_ne {w : World} {b k : Nat} {x0 x1 x2 : Value} (h : k ≠ b) : (((w.setCell ⟨b, 0, none⟩ x0).setCell ⟨b, 1, none⟩ x1).setCell ⟨b, 2, none⟩ x2).heap[k]? = w.heap[k]? :=
  ((Below.heap_setCell _ _ _ _ h).trans (Below.heap_setCell _ _ _ _ h)).trans (Below.heap_setCell _ _ _ _ h)

set_option maxRecDepth 100000 in
set_option maxHeartbeats 4000000 in
theorem same_region {Q : Exit → Act → World → Prop} {a0 : Act} {w5 : World} {bA bB gv gv' b1 o1 b2 o2 N n vc vc' sc sc' k j : Nat} {yf yt zf zt : ByteArray} {ka la : Option Addr} {nk kc ln lc : Nat}
    (hsz : [75, 76, 77, 78, 79, 80, 81, 82, 83, 84, 85, 86, 87, 88, 89, 90, 7, 8].all (fun d => decide (d < a0.tmps.size)) = true)
    (s2 : slots a0 2 = .pointer (some ⟨bA, 0, none⟩)) (s3 : slots a0 3 = .pointer (some ⟨bB, 0, none⟩)) (s5 : slots a0 5 = .int .i64 (k : Int)) (s6 : slots a0 6 = .int .i64 (j : Int)) (hkN : k < N) (hjn : j < n)
    (ca : w5.cell? ⟨bA, 1, none⟩ = some (.slice (some ⟨gv, 0, none⟩) N vc)) (cb : w5.cell? ⟨bB, 1, none⟩ = some (.slice (some ⟨gv', 0, none⟩) N vc')) (da : w5.cell? ⟨gv, k, none⟩ = some (.slice (some ⟨b1, o1, none⟩) n sc)) (db : w5.cell? ⟨gv', k, none⟩ = some (.slice (some ⟨b2, o2, none⟩) n sc'))
    (e0 : w5.cell? ⟨b1, o1 + j * 3, none⟩ = some (.string yf)) (e1' : w5.cell? ⟨b1, o1 + j * 3 + 1, none⟩ = some (.string yt)) (e2' : w5.cell? ⟨b1, o1 + j * 3 + 2, none⟩ = some (.slice ka nk kc))
    (g0 : w5.cell? ⟨b2, o2 + j * 3, none⟩ = some (.string zf)) (g1 : w5.cell? ⟨b2, o2 + j * 3 + 1, none⟩ = some (.string zt)) (g2 : w5.cell? ⟨b2, o2 + j * 3 + 2, none⟩ = some (.slice la ln lc))
    (hQ : ∀ s w' bx bx', s 7 = .pointer (some ⟨bx, 0, none⟩) → s 8 = .pointer (some ⟨bx', 0, none⟩) → w'.heap[bx]? = some (.cells #[.string yf, .string yt, .slice ka nk kc] 56 (0, 0)) → w'.heap[bx']? = some (.cells #[.string zf, .string zt, .slice la ln lc] 56 (0, 0)) → Below w5.heap.size w5 w' → Q .normal (putAll a0 s [75, 76, 77, 78, 79, 80, 81, 82, 83, 84, 85, 86, 87, 88, 89, 90, 7, 8]) w') :
    (Code.region 11 same11.toArray true).wp Try.prog Q a0 w5 := by
  have hk1 : (k : Int) < (N : Int) := by omega
  have hk0 : (0 : Int) ≤ (k : Int) := by omega
  have hj1 : (j : Int) < (n : Int) := by omega
  have hj0 : (0 : Int) ≤ (j : Int) := by omega
  refine wp_region_as (by kernel_rfl) (by kernel_rfl) [75, 76, 77, 78, 79, 80, 81, 82, 83, 84, 85, 86, 87, 88, 89, 90, 7, 8] (by kernel_rfl) hsz (by kernel_rfl) (fun _ => 99) (sA [Value.pointer (some ⟨bA, 1, none⟩), .slice (some ⟨gv, 0, none⟩) N vc, .int .i64 (k : Int), Value.pointer (some ⟨gv, k, none⟩), .slice (some ⟨b1, o1, none⟩) n sc, .int .i64 (j : Int), Value.pointer (some ⟨b1, o1 + j * 3, none⟩), .agg #[.string yf, .string yt, .slice ka nk kc], Value.pointer (some ⟨bB, 1, none⟩), .slice (some ⟨gv', 0, none⟩) N vc', .int .i64 (k : Int), Value.pointer (some ⟨gv', k, none⟩), .slice (some ⟨b2, o2, none⟩) n sc', .int .i64 (j : Int), Value.pointer (some ⟨b2, o2 + j * 3, none⟩), .agg #[.string zf, .string zt, .slice la ln lc]]) (sG w5 #[.string yf, .string yt, .slice ka nk kc] #[.string zf, .string zt, .slice la ln lc]) ⟨(Below.refl _ _).drew, (fun h => by cases h), (fun h => by cases h), (fun h => by cases h)⟩ ?_ ?_
  · intro L st wz i o hG hL hcl hA hF hi' hl ha
    have h99 : L 99 = false := by
      cases h : L 99 with
      | false => rfl
      | true => exact absurd (hL 99 h) (by decide)
    obtain _ | i := i
    · obtain rfl := Option.some.inj hi'
      have e1 : st 2 = Value.pointer (some ⟨bA, 0, none⟩) := (hF 2 (by decide)).trans s2
      refine opStep_value (v := Value.pointer (some ⟨bA, 1, none⟩)) (w' := wz) ?_ ⟨sG_pure hG (by decide) (by decide) _, rfl, fun k _ _ _ h => h⟩
      simp only [execOp, evalS, e1]
      go_simp
    obtain _ | i := i
    · obtain rfl := Option.some.inj hi'
      have e1 : st 75 = Value.pointer (some ⟨bA, 1, none⟩) := hA 0 (ha { on := 0, ground := .data } (by simp) rfl) h99
      have cz := keptCell hG.1 ca
      refine opStep_value (v := .slice (some ⟨gv, 0, none⟩) N vc) (w' := wz) ?_ ⟨sG_pure hG (by decide) (by decide) _, rfl, fun k _ _ _ h => h⟩
      simp only [execOp, evalS, e1]
      go_simp
    obtain _ | i := i
    · obtain rfl := Option.some.inj hi'
      have e1 : st 5 = .int .i64 (k : Int) := (hF 5 (by decide)).trans s5
      exact opStep_value (v := st 5) (w' := wz) rfl ⟨sG_pure hG (by decide) (by decide) _, e1, fun k _ _ _ h => h⟩
    obtain _ | i := i
    · obtain rfl := Option.some.inj hi'
      have e1 : st 76 = .slice (some ⟨gv, 0, none⟩) N vc := hA 1 (ha { on := 1, ground := .data } (by simp) rfl) h99
      have e2 : st 77 = .int .i64 (k : Int) := hA 2 (ha { on := 2, ground := .data } (by simp) rfl) h99
      refine opStep_value (v := Value.pointer (some ⟨gv, k, none⟩)) (w' := wz) ?_ ⟨sG_pure hG (by decide) (by decide) _, rfl, fun k _ _ _ h => h⟩
      simp only [execOp, evalS, e1, e2]
      go_simp
    obtain _ | i := i
    · obtain rfl := Option.some.inj hi'
      have e1 : st 78 = Value.pointer (some ⟨gv, k, none⟩) := hA 3 (ha { on := 3, ground := .data } (by simp) rfl) h99
      have cz := keptCell hG.1 da
      refine opStep_value (v := .slice (some ⟨b1, o1, none⟩) n sc) (w' := wz) ?_ ⟨sG_pure hG (by decide) (by decide) _, rfl, fun k _ _ _ h => h⟩
      simp only [execOp, evalS, e1]
      go_simp
    obtain _ | i := i
    · obtain rfl := Option.some.inj hi'
      have e1 : st 6 = .int .i64 (j : Int) := (hF 6 (by decide)).trans s6
      exact opStep_value (v := st 6) (w' := wz) rfl ⟨sG_pure hG (by decide) (by decide) _, e1, fun k _ _ _ h => h⟩
    obtain _ | i := i
    · obtain rfl := Option.some.inj hi'
      have e1 : st 79 = .slice (some ⟨b1, o1, none⟩) n sc := hA 4 (ha { on := 4, ground := .data } (by simp) rfl) h99
      have e2 : st 80 = .int .i64 (j : Int) := hA 5 (ha { on := 5, ground := .data } (by simp) rfl) h99
      refine opStep_value (v := Value.pointer (some ⟨b1, o1 + j * 3, none⟩)) (w' := wz) ?_ ⟨sG_pure hG (by decide) (by decide) _, rfl, fun k _ _ _ h => h⟩
      simp only [execOp, evalS, e1, e2]
      go_simp
    obtain _ | i := i
    · obtain rfl := Option.some.inj hi'
      have e1 : st 81 = Value.pointer (some ⟨b1, o1 + j * 3, none⟩) := hA 6 (ha { on := 6, ground := .data } (by simp) rfl) h99
      have x0 := keptCell hG.1 e0
      have x1 := keptCell hG.1 e1'
      have x2 := keptCell hG.1 e2'
      refine opStep_value (v := .agg #[.string yf, .string yt, .slice ka nk kc]) (w' := wz) ?_ ⟨sG_pure hG (by decide) (by decide) _, rfl, fun k _ _ _ h => h⟩
      simp only [execOp, evalS, e1]
      go_simp
    obtain _ | i := i
    · obtain rfl := Option.some.inj hi'
      have e1 : st 3 = Value.pointer (some ⟨bB, 0, none⟩) := (hF 3 (by decide)).trans s3
      refine opStep_value (v := Value.pointer (some ⟨bB, 1, none⟩)) (w' := wz) ?_ ⟨sG_pure hG (by decide) (by decide) _, rfl, fun k _ _ _ h => h⟩
      simp only [execOp, evalS, e1]
      go_simp
    obtain _ | i := i
    · obtain rfl := Option.some.inj hi'
      have e1 : st 83 = Value.pointer (some ⟨bB, 1, none⟩) := hA 8 (ha { on := 8, ground := .data } (by simp) rfl) h99
      have cz := keptCell hG.1 cb
      refine opStep_value (v := .slice (some ⟨gv', 0, none⟩) N vc') (w' := wz) ?_ ⟨sG_pure hG (by decide) (by decide) _, rfl, fun k _ _ _ h => h⟩
      simp only [execOp, evalS, e1]
      go_simp
    obtain _ | i := i
    · obtain rfl := Option.some.inj hi'
      have e1 : st 5 = .int .i64 (k : Int) := (hF 5 (by decide)).trans s5
      exact opStep_value (v := st 5) (w' := wz) rfl ⟨sG_pure hG (by decide) (by decide) _, e1, fun k _ _ _ h => h⟩
    obtain _ | i := i
    · obtain rfl := Option.some.inj hi'
      have e1 : st 84 = .slice (some ⟨gv', 0, none⟩) N vc' := hA 9 (ha { on := 9, ground := .data } (by simp) rfl) h99
      have e2 : st 85 = .int .i64 (k : Int) := hA 10 (ha { on := 10, ground := .data } (by simp) rfl) h99
      refine opStep_value (v := Value.pointer (some ⟨gv', k, none⟩)) (w' := wz) ?_ ⟨sG_pure hG (by decide) (by decide) _, rfl, fun k _ _ _ h => h⟩
      simp only [execOp, evalS, e1, e2]
      go_simp
    obtain _ | i := i
    · obtain rfl := Option.some.inj hi'
      have e1 : st 86 = Value.pointer (some ⟨gv', k, none⟩) := hA 11 (ha { on := 11, ground := .data } (by simp) rfl) h99
      have cz := keptCell hG.1 db
      refine opStep_value (v := .slice (some ⟨b2, o2, none⟩) n sc') (w' := wz) ?_ ⟨sG_pure hG (by decide) (by decide) _, rfl, fun k _ _ _ h => h⟩
      simp only [execOp, evalS, e1]
      go_simp
    obtain _ | i := i
    · obtain rfl := Option.some.inj hi'
      have e1 : st 6 = .int .i64 (j : Int) := (hF 6 (by decide)).trans s6
      exact opStep_value (v := st 6) (w' := wz) rfl ⟨sG_pure hG (by decide) (by decide) _, e1, fun k _ _ _ h => h⟩
    obtain _ | i := i
    · obtain rfl := Option.some.inj hi'
      have e1 : st 87 = .slice (some ⟨b2, o2, none⟩) n sc' := hA 12 (ha { on := 12, ground := .data } (by simp) rfl) h99
      have e2 : st 88 = .int .i64 (j : Int) := hA 13 (ha { on := 13, ground := .data } (by simp) rfl) h99
      refine opStep_value (v := Value.pointer (some ⟨b2, o2 + j * 3, none⟩)) (w' := wz) ?_ ⟨sG_pure hG (by decide) (by decide) _, rfl, fun k _ _ _ h => h⟩
      simp only [execOp, evalS, e1, e2]
      go_simp
    obtain _ | i := i
    · obtain rfl := Option.some.inj hi'
      have e1 : st 89 = Value.pointer (some ⟨b2, o2 + j * 3, none⟩) := hA 14 (ha { on := 14, ground := .data } (by simp) rfl) h99
      have x0 := keptCell hG.1 g0
      have x1 := keptCell hG.1 g1
      have x2 := keptCell hG.1 g2
      refine opStep_value (v := .agg #[.string zf, .string zt, .slice la ln lc]) (w' := wz) ?_ ⟨sG_pure hG (by decide) (by decide) _, rfl, fun k _ _ _ h => h⟩
      simp only [execOp, evalS, e1]
      go_simp
    obtain _ | i := i
    · obtain rfl := Option.some.inj hi'
      have h18 : L 18 = false := by
        cases h : L 18 with
        | false => rfl
        | true => rw [hcl 18 _ h rfl { on := 16, ground := .data } (by simp) rfl] at hl; cases hl
      have hz := hG.1.size
      refine opStep_value (v := .pointer (some ⟨wz.heap.size, 0, none⟩)) (w' := wz.alloc (.cells zV 56)) ?_ ⟨⟨hG.1.trans ((below1 wz _).mono hz), fun _ => ⟨wz.heap.size, updS_eq, hz, ?_⟩, fun h => ?_, fun _ h => ?_⟩, trivial, fun k _ _ _ h => h⟩
      · simp only [execOp, zV]
        go_simp
      · rw [also_ne (by decide), h18]; exact heap_alloc_new _ _
      · rw [also_ne (by decide)] at h
        obtain ⟨b, q1, q2, q3⟩ := hG.2.2.1 h
        refine ⟨b, (updS_ne (by decide)).trans q1, q2, ?_⟩
        rw [also_ne (by decide)]; exact (Below.heap_alloc _ _ _ (lt_of_block q3)).trans q3
      · rw [also_ne (by decide)] at h
        obtain ⟨b, q1, q2, q3⟩ := hG.2.2.1 h
        rw [updS_eq, updS_ne (by decide), q1]
        intro e; cases e; have := lt_of_block q3; omega
    obtain _ | i := i
    · obtain rfl := Option.some.inj hi'
      have h19 : L 19 = false := by
        cases h : L 19 with
        | false => rfl
        | true => rw [hcl 19 _ h rfl { on := 17, ground := .data } (by simp) rfl] at hl; cases hl
      have hz := hG.1.size
      refine opStep_value (v := .pointer (some ⟨wz.heap.size, 0, none⟩)) (w' := wz.alloc (.cells zV 56)) ?_ ⟨⟨hG.1.trans ((below1 wz _).mono hz), fun h => ?_, fun _ => ⟨wz.heap.size, updS_eq, hz, ?_⟩, fun h _ => ?_⟩, trivial, fun k _ _ _ h => h⟩
      · simp only [execOp, zV]
        go_simp
      · rw [also_ne (by decide)] at h
        obtain ⟨b, q1, q2, q3⟩ := hG.2.1 h
        refine ⟨b, (updS_ne (by decide)).trans q1, q2, ?_⟩
        rw [also_ne (by decide)]; exact (Below.heap_alloc _ _ _ (lt_of_block q3)).trans q3
      · rw [also_ne (by decide), h19]; exact heap_alloc_new _ _
      · rw [also_ne (by decide)] at h
        obtain ⟨b, q1, q2, q3⟩ := hG.2.1 h
        rw [updS_ne (by decide), updS_eq, q1]
        intro e; cases e; have := lt_of_block q3; omega
    obtain _ | i := i
    · obtain rfl := Option.some.inj hi'
      have hb := ha { on := 16, ground := .data } (by simp) rfl
      obtain ⟨b, q1, q2, q3⟩ := hG.2.1 hb
      rw [hl] at q3
      simp only [Bool.false_eq_true, if_false] at q3
      unfold zV at q3
      have e2 : st 82 = .agg #[.string yf, .string yt, .slice ka nk kc] := hA 7 (ha { on := 7, ground := .data } (by simp) rfl) h99
      obtain ⟨x0, x1, x2⟩ : wz.cell? ⟨b, 0, none⟩ = some (.string ⟨#[]⟩) ∧ wz.cell? ⟨b, 1, none⟩ = some (.string ⟨#[]⟩) ∧ wz.cell? ⟨b, 2, none⟩ = some (.slice none 0 0) := by simp [World.cell?, q3]
      obtain ⟨y0, y1, y2⟩ : wz.frozen? ⟨b, 0, none⟩ = false ∧ wz.frozen? ⟨b, 1, none⟩ = false ∧ wz.frozen? ⟨b, 2, none⟩ = false := by simp [World.frozen?, q3]
      refine opStep_skip (w' := ((wz.setCell ⟨b, 0, none⟩ (.string yf)).setCell ⟨b, 1, none⟩ (.string yt)).setCell ⟨b, 2, none⟩ (.slice ka nk kc)) ?_ ⟨⟨hG.1.trans ⟨rfl, rfl, rfl, by simp, fun k hk => heap_set3_ne (by omega)⟩, fun h => ?_, fun h => ?_, fun h h' => ?_⟩, trivial, fun k _ _ _ h => h⟩
      · simp only [execOp, evalS, q1, e2]
        go_simp
      · refine ⟨b, q1, q2, ?_⟩
        rw [also_eq]; exact heap_set3 q3
      · rw [also_ne (by decide)] at h
        obtain ⟨b9, r1, r2, r3⟩ := hG.2.2.1 h
        refine ⟨b9, r1, r2, ?_⟩
        rw [also_ne (by decide), heap_set3_ne (fun e => ?_)]
        · exact r3
        · subst e; exact hG.2.2.2 (by first | exact hb | exact h) (by first | exact h | exact hb) (q1.trans r1.symm)
      · rw [also_ne (by decide)] at h h'
        exact hG.2.2.2 h h'
    obtain _ | i := i
    · obtain rfl := Option.some.inj hi'
      have hb := ha { on := 17, ground := .data } (by simp) rfl
      obtain ⟨b, q1, q2, q3⟩ := hG.2.2.1 hb
      rw [hl] at q3
      simp only [Bool.false_eq_true, if_false] at q3
      unfold zV at q3
      have e2 : st 90 = .agg #[.string zf, .string zt, .slice la ln lc] := hA 15 (ha { on := 15, ground := .data } (by simp) rfl) h99
      obtain ⟨x0, x1, x2⟩ : wz.cell? ⟨b, 0, none⟩ = some (.string ⟨#[]⟩) ∧ wz.cell? ⟨b, 1, none⟩ = some (.string ⟨#[]⟩) ∧ wz.cell? ⟨b, 2, none⟩ = some (.slice none 0 0) := by simp [World.cell?, q3]
      obtain ⟨y0, y1, y2⟩ : wz.frozen? ⟨b, 0, none⟩ = false ∧ wz.frozen? ⟨b, 1, none⟩ = false ∧ wz.frozen? ⟨b, 2, none⟩ = false := by simp [World.frozen?, q3]
      refine opStep_skip (w' := ((wz.setCell ⟨b, 0, none⟩ (.string zf)).setCell ⟨b, 1, none⟩ (.string zt)).setCell ⟨b, 2, none⟩ (.slice la ln lc)) ?_ ⟨⟨hG.1.trans ⟨rfl, rfl, rfl, by simp, fun k hk => heap_set3_ne (by omega)⟩, fun h => ?_, fun h => ?_, fun h h' => ?_⟩, trivial, fun k _ _ _ h => h⟩
      · simp only [execOp, evalS, q1, e2]
        go_simp
      · rw [also_ne (by decide)] at h
        obtain ⟨b9, r1, r2, r3⟩ := hG.2.1 h
        refine ⟨b9, r1, r2, ?_⟩
        rw [also_ne (by decide), heap_set3_ne (fun e => ?_)]
        · exact r3
        · subst e; exact hG.2.2.2 (by first | exact h | exact hb) (by first | exact hb | exact h) (r1.trans q1.symm)
      · refine ⟨b, q1, q2, ?_⟩
        rw [also_eq]; exact heap_set3 q3
      · rw [also_ne (by decide)] at h h'
        exact hG.2.2.2 h h'
    · exfalso
      have hlen : i + 20 < 20 := (List.getElem?_eq_some_iff.1 hi').1
      omega
  · intro L st wz hG _ hall _
    obtain ⟨b, q1, q2, q3⟩ := hG.2.1 (hall 16 (by decide))
    obtain ⟨b', r1, r2, r3⟩ := hG.2.2.1 (hall 17 (by decide))
    rw [hall 18 (by decide)] at q3
    rw [hall 19 (by decide)] at r3
    exact hQ st wz b b' q1 r1 q3 r3 hG.1
end Go.Proofs.Ytjjggefmmeminab
