import Derived.Test.YtbnjflajhlnifaaRmTy
import Derived.Test.YtbnjflajhlnifaaRmIns
/-
  'p.Owners = append(p.Owners, api.Owner{Service: i, Type: s.Types[j].Name, Field: own[j][k]})' in stitchref1.All, in whatever order.
-/
namespace Go.Proofs.Ytbnjflajhlnifaa
open Go.RowKit Go.Sort Go.PlainAid

/-- The statement's operations, as the translation has them. -/
def own26 : List Oper := [
  { dst := some 149, op := Op.move (Operand.tmp 15), type := 72, pos := "ref.go:313", after := #[], guard := none },
   { dst := some 150, op := Op.move (Operand.tmp 15), type := 72, pos := "ref.go:313", after := #[], guard := none },
   { dst := some 151, op := Op.nilCheck (Operand.tmp 150), type := 0, pos := "ref.go:313", after := #[{ on := 1, ground := Ground.data }], guard := none },
   { dst := some 152, op := Op.fieldAddr 76 (Operand.tmp 151) 1, type := 0, pos := "ref.go:313", after := #[{ on := 2, ground := Ground.data }], guard := none },
   { dst := some 153, op := Op.load 74 (Operand.tmp 152), type := 74, pos := "ref.go:313", after := #[{ on := 3, ground := Ground.data }], guard := none },
   { dst := some 154, op := Op.move (Operand.tmp 6), type := 3, pos := "ref.go:313", after := #[], guard := none },
   { dst := some 155, op := Op.fieldAddr 83 (Operand.tmp 7) 0, type := 0, pos := "ref.go:313", after := #[], guard := none },
   { dst := some 156, op := Op.load 22 (Operand.tmp 155), type := 22, pos := "ref.go:313", after := #[{ on := 6, ground := Ground.data }], guard := none },
   { dst := some 157, op := Op.move (Operand.tmp 12), type := 3, pos := "ref.go:313", after := #[], guard := none },
   { dst := some 158, op := Op.indexAddr 22 (Operand.tmp 156) (Operand.tmp 157), type := 0, pos := "ref.go:313", after := #[{ on := 7, ground := Ground.data }, { on := 8, ground := Ground.data }], guard := none },
   { dst := some 159, op := Op.fieldAddr 34 (Operand.tmp 158) 0, type := 0, pos := "ref.go:313", after := #[{ on := 9, ground := Ground.data }], guard := none },
   { dst := some 160, op := Op.load 9 (Operand.tmp 159), type := 9, pos := "ref.go:313", after := #[{ on := 10, ground := Ground.data }], guard := none },
   { dst := some 161, op := Op.move (Operand.tmp 11), type := 45, pos := "ref.go:313", after := #[], guard := none },
   { dst := some 162, op := Op.move (Operand.tmp 12), type := 3, pos := "ref.go:313", after := #[], guard := none },
   { dst := some 163, op := Op.indexAddr 45 (Operand.tmp 161) (Operand.tmp 162), type := 0, pos := "ref.go:313", after := #[{ on := 12, ground := Ground.data }, { on := 13, ground := Ground.data }], guard := none },
   { dst := some 164, op := Op.load 44 (Operand.tmp 163), type := 44, pos := "ref.go:313", after := #[{ on := 14, ground := Ground.data }], guard := none },
   { dst := some 165, op := Op.move (Operand.tmp 16), type := 3, pos := "ref.go:313", after := #[], guard := none },
   { dst := some 166, op := Op.indexAddr 44 (Operand.tmp 164) (Operand.tmp 165), type := 0, pos := "ref.go:313", after := #[{ on := 15, ground := Ground.data }, { on := 16, ground := Ground.data }], guard := none },
   { dst := some 167, op := Op.load 9 (Operand.tmp 166), type := 9, pos := "ref.go:313", after := #[{ on := 17, ground := Ground.data }], guard := none },
   { dst := some 168, op := Op.build 81 #[(0, Operand.tmp 154), (1, Operand.tmp 160), (2, Operand.tmp 167)], type := 81, pos := "ref.go:313", after := #[{ on := 5, ground := Ground.data }, { on := 11, ground := Ground.data }, { on := 18, ground := Ground.data }], guard := none },
   { dst := some 169, op := Op.buildSlice 74 1 #[(0, Operand.tmp 168)], type := 74, pos := "ref.go:313", after := #[{ on := 19, ground := Ground.data }], guard := none },
   { dst := some 170, op := Op.call { callee := Callee.builtin Builtin.append, args := #[Operand.tmp 153, Operand.tmp 169], argTypes := #[74, 74] }, type := 74, pos := "ref.go:313", after := #[{ on := 4, ground := Ground.data }, { on := 20, ground := Ground.data }], guard := none },
   { dst := some 171, op := Op.nilCheck (Operand.tmp 149), type := 0, pos := "ref.go:313", after := #[{ on := 0, ground := Ground.data }, { on := 0, ground := Ground.phase }, { on := 1, ground := Ground.phase }, { on := 2, ground := Ground.phase }, { on := 3, ground := Ground.phase }, { on := 4, ground := Ground.phase }, { on := 5, ground := Ground.phase }, { on := 6, ground := Ground.phase }, { on := 7, ground := Ground.phase }, { on := 8, ground := Ground.phase }, { on := 9, ground := Ground.phase }, { on := 10, ground := Ground.phase }, { on := 11, ground := Ground.phase }, { on := 12, ground := Ground.phase }, { on := 13, ground := Ground.phase }, { on := 14, ground := Ground.phase }, { on := 15, ground := Ground.phase }, { on := 16, ground := Ground.phase }, { on := 17, ground := Ground.phase }, { on := 18, ground := Ground.phase }, { on := 19, ground := Ground.phase }, { on := 20, ground := Ground.phase }, { on := 21, ground := Ground.phase }], guard := none },
   { dst := some 172, op := Op.fieldAddr 76 (Operand.tmp 171) 1, type := 0, pos := "ref.go:313", after := #[{ on := 22, ground := Ground.data }, { on := 0, ground := Ground.phase }, { on := 1, ground := Ground.phase }, { on := 2, ground := Ground.phase }, { on := 3, ground := Ground.phase }, { on := 4, ground := Ground.phase }, { on := 5, ground := Ground.phase }, { on := 6, ground := Ground.phase }, { on := 7, ground := Ground.phase }, { on := 8, ground := Ground.phase }, { on := 9, ground := Ground.phase }, { on := 10, ground := Ground.phase }, { on := 11, ground := Ground.phase }, { on := 12, ground := Ground.phase }, { on := 13, ground := Ground.phase }, { on := 14, ground := Ground.phase }, { on := 15, ground := Ground.phase }, { on := 16, ground := Ground.phase }, { on := 17, ground := Ground.phase }, { on := 18, ground := Ground.phase }, { on := 19, ground := Ground.phase }, { on := 20, ground := Ground.phase }, { on := 21, ground := Ground.phase }], guard := none },
   { dst := none, op := Op.store 74 (Operand.tmp 172) (Operand.tmp 170), type := 0, pos := "ref.go:313", after := #[{ on := 23, ground := Ground.data }, { on := 21, ground := Ground.data }, { on := 21, ground := Ground.chain }, { on := 0, ground := Ground.phase }, { on := 1, ground := Ground.phase }, { on := 2, ground := Ground.phase }, { on := 3, ground := Ground.phase }, { on := 4, ground := Ground.phase }, { on := 5, ground := Ground.phase }, { on := 6, ground := Ground.phase }, { on := 7, ground := Ground.phase }, { on := 8, ground := Ground.phase }, { on := 9, ground := Ground.phase }, { on := 10, ground := Ground.phase }, { on := 11, ground := Ground.phase }, { on := 12, ground := Ground.phase }, { on := 13, ground := Ground.phase }, { on := 14, ground := Ground.phase }, { on := 15, ground := Ground.phase }, { on := 16, ground := Ground.phase }, { on := 17, ground := Ground.phase }, { on := 18, ground := Ground.phase }, { on := 19, ground := Ground.phase }, { on := 20, ground := Ground.phase }, { on := 21, ground := Ground.phase }], guard := none }]

def con26 (k : Nat) : Nat := if k = 20 then 21 else if k = 21 then 24 else 99
/-- What the append leaves. -/
def R26 (w5 : World) (n : Nat) (xs news : List Value) (old v : Value) (w : World) : Prop := ∃ X, Below w5.heap.size w5 X ∧ w.ownsRow 0 81 3 v (n + 1) (xs ++ news) ∧ X.grownBy w old.ownBlock ∧ (v.ownBlock = old.ownBlock ∨ v.ownBlock = some X.heap.size)
def oA (w5 : World) (gj o2 n : Nat) (xs news : List Value) (old : Value) (vals : List Value) (_ : Nat → Bool) (k : Nat) (x : Value) (w : World) : Prop :=
  if k = 20 then ∃ b, x = .slice (some ⟨b, 0, none⟩) 1 1 ∧ w.heap[b]? = some (.cells news.toArray 81 (0, 0)) else
  if k = 21 then R26 w5 n xs news old x w else
  if k = 24 then ∃ w' v', R26 w5 n xs news old v' w' ∧ w = w'.setCell ⟨gj, o2, none⟩ v' else x = vals.getD k undef
theorem oA_pure {w5 : World} {gj o2 n : Nat} {xs news : List Value} {old : Value} {vals : List Value} {L L' : Nat → Bool} {k : Nat} {x : Value} {w w' : World} (h0 : k ≠ 20) (h1 : k ≠ 21) (h2 : k ≠ 24) (h : oA w5 gj o2 n xs news old vals L k x w) : oA w5 gj o2 n xs news old vals L' k x w' := by
  unfold oA at *
  rw [if_neg h0, if_neg h1, if_neg h2] at *
  exact h

set_option maxRecDepth 100000 in
set_option maxHeartbeats 4000000 in
theorem owners_region {Q : Exit → Act → World → Prop} {a0 : Act} {w5 : World} {gj tt n d2 bs ob oo m nt tcap tg to5 k3 nb no q nf tc : Nat} {k : Int} {b2 : Option Addr} {ownN oq : ByteArray} {f : Nat → Value} {iO : TypeInfo}
    (oi : Try.prog.info? 81 = some iO) (oz0 : iO.zero = some (.agg #[.int .i64 0, .string ⟨#[]⟩, .string ⟨#[]⟩])) (oz1 : iO.size = 3) (oz2 : iO.bytes = 40)
    (hsz : [149, 150, 151, 152, 153, 154, 155, 156, 157, 158, 159, 160, 161, 162, 163, 164, 165, 166, 167, 168, 169, 170, 171, 172].all (fun d => decide (d < a0.tmps.size)) = true)
    (s15 : slots a0 15 = .pointer (some ⟨gj, tt * 4, none⟩)) (s6 : slots a0 6 = .int .i64 k) (s7 : slots a0 7 = .pointer (some ⟨bs, 0, none⟩)) (s12 : slots a0 12 = .int .i64 (m : Int)) (s11 : slots a0 11 = .slice (some ⟨tg, to5, none⟩) nt k3) (s16 : slots a0 16 = .int .i64 (q : Int))
    (hmt : m < nt) (hqf : q < nf) (hn : n ≤ 1000) (hR : Row w5 0 81 3 (.slice b2 n d2) n f)
    (c2 : w5.cell? ⟨gj, tt * 4 + 2, none⟩ = some (.slice b2 n d2)) (cs : w5.cell? ⟨bs, 0, none⟩ = some (.slice (some ⟨ob, oo, none⟩) nt tcap)) (co : w5.cell? ⟨ob, oo + m * 2, none⟩ = some (.string ownN))
    (ct : w5.cell? ⟨tg, to5 + m, none⟩ = some (.slice (some ⟨nb, no, none⟩) nf tc)) (cq : w5.cell? ⟨nb, no + q, none⟩ = some (.string oq))
    (hst : ∀ v' w', R26 w5 n ((List.range (n * 3)).map f) [.int .i64 k, .string ownN, .string oq] (.slice b2 n d2) v' w' → (∃ u, w'.cell? ⟨gj, tt * 4 + 2, none⟩ = some u) ∧ w'.frozen? ⟨gj, tt * 4 + 2, none⟩ = false)
    (hQ : ∀ s w' v', R26 w5 n ((List.range (n * 3)).map f) [.int .i64 k, .string ownN, .string oq] (.slice b2 n d2) v' w' → Q .normal (putAll a0 s [149, 150, 151, 152, 153, 154, 155, 156, 157, 158, 159, 160, 161, 162, 163, 164, 165, 166, 167, 168, 169, 170, 171, 172]) (w'.setCell ⟨gj, tt * 4 + 2, none⟩ v')) :
    (Code.region 26 own26.toArray true).wp Try.prog Q a0 w5 := by
  have hm1 : (m : Int) < (nt : Int) := by omega
  have hm0 : (0 : Int) ≤ (m : Int) := by omega
  have hq1 : (q : Int) < (nf : Int) := by omega
  have hq0 : (0 : Int) ≤ (q : Int) := by omega
  refine wp_region_as (by kernel_rfl) (by kernel_rfl) [149, 150, 151, 152, 153, 154, 155, 156, 157, 158, 159, 160, 161, 162, 163, 164, 165, 166, 167, 168, 169, 170, 171, 172] (by kernel_rfl) hsz (by kernel_rfl) con26 (oA w5 gj (tt * 4 + 2) n ((List.range (n * 3)).map f) [.int .i64 k, .string ownN, .string oq] (.slice b2 n d2) [Value.pointer (some ⟨gj, tt * 4, none⟩), Value.pointer (some ⟨gj, tt * 4, none⟩), Value.pointer (some ⟨gj, tt * 4, none⟩), Value.pointer (some ⟨gj, tt * 4 + 2, none⟩), .slice b2 n d2, .int .i64 k, Value.pointer (some ⟨bs, 0, none⟩), .slice (some ⟨ob, oo, none⟩) nt tcap, .int .i64 (m : Int), Value.pointer (some ⟨ob, oo + m * 2, none⟩), Value.pointer (some ⟨ob, oo + m * 2, none⟩), .string ownN, .slice (some ⟨tg, to5, none⟩) nt k3, .int .i64 (m : Int), Value.pointer (some ⟨tg, to5 + m, none⟩), .slice (some ⟨nb, no, none⟩) nf tc, .int .i64 (q : Int), Value.pointer (some ⟨nb, no + q, none⟩), .string oq, .agg #[.int .i64 k, .string ownN, .string oq], undef, undef, Value.pointer (some ⟨gj, tt * 4, none⟩), Value.pointer (some ⟨gj, tt * 4 + 2, none⟩)]) (fun L _ w => L 21 = false → Below w5.heap.size w5 w) (fun _ => (Below.refl _ _).drew) ?_ ?_
  · intro L st wz i o hG hL hcl hA hF hi' hl ha
    have h99 : L 99 = false := by
      cases h : L 99 with
      | false => rfl
      | true => exact absurd (hL 99 h) (by decide)
    have down : ∀ j, j ≠ 21 → also L j 21 = false → L 21 = false := fun j hj h => by
      unfold also at h; simpa [Ne.symm hj] using h
    have u4 : L 21 = true → L 4 = true := fun h => hcl 21 _ h rfl { on := 4, ground := .data } (by simp) rfl
    have u20 : L 21 = true → L 20 = true := fun h => hcl 21 _ h rfl { on := 20, ground := .data } (by simp) rfl
    have u19 : L 20 = true → L 19 = true := fun h => hcl 20 _ h rfl { on := 19, ground := .data } (by simp) rfl
    have u11 : L 19 = true → L 11 = true := fun h => hcl 19 _ h rfl { on := 11, ground := .data } (by simp) rfl
    have u18 : L 19 = true → L 18 = true := fun h => hcl 19 _ h rfl { on := 18, ground := .data } (by simp) rfl
    have u10 : L 11 = true → L 10 = true := fun h => hcl 11 _ h rfl { on := 10, ground := .data } (by simp) rfl
    have u9 : L 10 = true → L 9 = true := fun h => hcl 10 _ h rfl { on := 9, ground := .data } (by simp) rfl
    have u7 : L 9 = true → L 7 = true := fun h => hcl 9 _ h rfl { on := 7, ground := .data } (by simp) rfl
    have u17 : L 18 = true → L 17 = true := fun h => hcl 18 _ h rfl { on := 17, ground := .data } (by simp) rfl
    have u15 : L 17 = true → L 15 = true := fun h => hcl 17 _ h rfl { on := 15, ground := .data } (by simp) rfl
    have u21 : L 24 = true → L 21 = true := fun h => hcl 24 _ h rfl { on := 21, ground := .data } (by simp) rfl
    have at21 : ∀ j, (L 21 = true → L j = true) → L j = false → L 21 = false := fun j hj h => by
      cases h21 : L 21 with
      | false => rfl
      | true => rw [hj h21] at h; cases h
    obtain _ | i := i
    · obtain rfl := Option.some.inj hi'
      have e1 : st 15 = Value.pointer (some ⟨gj, tt * 4, none⟩) := (hF 15 (by decide)).trans s15
      exact opStep_value (v := st 15) (w' := wz) rfl ⟨fun h => hG (down 0 (by decide) h), e1, fun k _ _ _ h => h⟩
    obtain _ | i := i
    · obtain rfl := Option.some.inj hi'
      have e1 : st 15 = Value.pointer (some ⟨gj, tt * 4, none⟩) := (hF 15 (by decide)).trans s15
      exact opStep_value (v := st 15) (w' := wz) rfl ⟨fun h => hG (down 1 (by decide) h), e1, fun k _ _ _ h => h⟩
    obtain _ | i := i
    · obtain rfl := Option.some.inj hi'
      have e1 : st 150 = Value.pointer (some ⟨gj, tt * 4, none⟩) := hA 1 (ha { on := 1, ground := .data } (by simp) rfl) h99
      refine opStep_value (v := Value.pointer (some ⟨gj, tt * 4, none⟩)) (w' := wz) ?_ ⟨fun h => hG (down 2 (by decide) h), rfl, fun k _ _ _ h => h⟩
      simp only [execOp, evalS, e1]
      go_simp
    obtain _ | i := i
    · obtain rfl := Option.some.inj hi'
      have e1 : st 151 = Value.pointer (some ⟨gj, tt * 4, none⟩) := hA 2 (ha { on := 2, ground := .data } (by simp) rfl) h99
      refine opStep_value (v := Value.pointer (some ⟨gj, tt * 4 + 2, none⟩)) (w' := wz) ?_ ⟨fun h => hG (down 3 (by decide) h), rfl, fun k _ _ _ h => h⟩
      simp only [execOp, evalS, e1]
      go_simp
    obtain _ | i := i
    · obtain rfl := Option.some.inj hi'
      have e1 : st 152 = Value.pointer (some ⟨gj, tt * 4 + 2, none⟩) := hA 3 (ha { on := 3, ground := .data } (by simp) rfl) h99
      have cz := keptCell (hG (at21 4 (u4) hl)) c2
      refine opStep_value (v := .slice b2 n d2) (w' := wz) ?_ ⟨fun h => hG (down 4 (by decide) h), rfl, fun k _ _ _ h => h⟩
      simp only [execOp, evalS, e1]
      go_simp
    obtain _ | i := i
    · obtain rfl := Option.some.inj hi'
      have e1 : st 6 = .int .i64 k := (hF 6 (by decide)).trans s6
      exact opStep_value (v := st 6) (w' := wz) rfl ⟨fun h => hG (down 5 (by decide) h), e1, fun k _ _ _ h => h⟩
    obtain _ | i := i
    · obtain rfl := Option.some.inj hi'
      have e1 : st 7 = Value.pointer (some ⟨bs, 0, none⟩) := (hF 7 (by decide)).trans s7
      refine opStep_value (v := Value.pointer (some ⟨bs, 0, none⟩)) (w' := wz) ?_ ⟨fun h => hG (down 6 (by decide) h), rfl, fun k _ _ _ h => h⟩
      simp only [execOp, evalS, e1]
      go_simp
    obtain _ | i := i
    · obtain rfl := Option.some.inj hi'
      have e1 : st 155 = Value.pointer (some ⟨bs, 0, none⟩) := hA 6 (ha { on := 6, ground := .data } (by simp) rfl) h99
      have cz := keptCell (hG (at21 7 (fun h => u7 (u9 (u10 (u11 (u19 (u20 h)))))) hl)) cs
      refine opStep_value (v := .slice (some ⟨ob, oo, none⟩) nt tcap) (w' := wz) ?_ ⟨fun h => hG (down 7 (by decide) h), rfl, fun k _ _ _ h => h⟩
      simp only [execOp, evalS, e1]
      go_simp
    obtain _ | i := i
    · obtain rfl := Option.some.inj hi'
      have e1 : st 12 = .int .i64 (m : Int) := (hF 12 (by decide)).trans s12
      exact opStep_value (v := st 12) (w' := wz) rfl ⟨fun h => hG (down 8 (by decide) h), e1, fun k _ _ _ h => h⟩
    obtain _ | i := i
    · obtain rfl := Option.some.inj hi'
      have e1 : st 156 = .slice (some ⟨ob, oo, none⟩) nt tcap := hA 7 (ha { on := 7, ground := .data } (by simp) rfl) h99
      have e2 : st 157 = .int .i64 (m : Int) := hA 8 (ha { on := 8, ground := .data } (by simp) rfl) h99
      refine opStep_value (v := Value.pointer (some ⟨ob, oo + m * 2, none⟩)) (w' := wz) ?_ ⟨fun h => hG (down 9 (by decide) h), rfl, fun k _ _ _ h => h⟩
      simp only [execOp, evalS, e1, e2]
      go_simp
    obtain _ | i := i
    · obtain rfl := Option.some.inj hi'
      have e1 : st 158 = Value.pointer (some ⟨ob, oo + m * 2, none⟩) := hA 9 (ha { on := 9, ground := .data } (by simp) rfl) h99
      refine opStep_value (v := Value.pointer (some ⟨ob, oo + m * 2, none⟩)) (w' := wz) ?_ ⟨fun h => hG (down 10 (by decide) h), rfl, fun k _ _ _ h => h⟩
      simp only [execOp, evalS, e1]
      go_simp
    obtain _ | i := i
    · obtain rfl := Option.some.inj hi'
      have e1 : st 159 = Value.pointer (some ⟨ob, oo + m * 2, none⟩) := hA 10 (ha { on := 10, ground := .data } (by simp) rfl) h99
      have cz := keptCell (hG (at21 11 (fun h => u11 (u19 (u20 h))) hl)) co
      refine opStep_value (v := .string ownN) (w' := wz) ?_ ⟨fun h => hG (down 11 (by decide) h), rfl, fun k _ _ _ h => h⟩
      simp only [execOp, evalS, e1]
      go_simp
    obtain _ | i := i
    · obtain rfl := Option.some.inj hi'
      have e1 : st 11 = .slice (some ⟨tg, to5, none⟩) nt k3 := (hF 11 (by decide)).trans s11
      exact opStep_value (v := st 11) (w' := wz) rfl ⟨fun h => hG (down 12 (by decide) h), e1, fun k _ _ _ h => h⟩
    obtain _ | i := i
    · obtain rfl := Option.some.inj hi'
      have e1 : st 12 = .int .i64 (m : Int) := (hF 12 (by decide)).trans s12
      exact opStep_value (v := st 12) (w' := wz) rfl ⟨fun h => hG (down 13 (by decide) h), e1, fun k _ _ _ h => h⟩
    obtain _ | i := i
    · obtain rfl := Option.some.inj hi'
      have e1 : st 161 = .slice (some ⟨tg, to5, none⟩) nt k3 := hA 12 (ha { on := 12, ground := .data } (by simp) rfl) h99
      have e2 : st 162 = .int .i64 (m : Int) := hA 13 (ha { on := 13, ground := .data } (by simp) rfl) h99
      refine opStep_value (v := Value.pointer (some ⟨tg, to5 + m, none⟩)) (w' := wz) ?_ ⟨fun h => hG (down 14 (by decide) h), rfl, fun k _ _ _ h => h⟩
      simp only [execOp, evalS, e1, e2]
      go_simp
    obtain _ | i := i
    · obtain rfl := Option.some.inj hi'
      have e1 : st 163 = Value.pointer (some ⟨tg, to5 + m, none⟩) := hA 14 (ha { on := 14, ground := .data } (by simp) rfl) h99
      have cz := keptCell (hG (at21 15 (fun h => u15 (u17 (u18 (u19 (u20 h))))) hl)) ct
      refine opStep_value (v := .slice (some ⟨nb, no, none⟩) nf tc) (w' := wz) ?_ ⟨fun h => hG (down 15 (by decide) h), rfl, fun k _ _ _ h => h⟩
      simp only [execOp, evalS, e1]
      go_simp
    obtain _ | i := i
    · obtain rfl := Option.some.inj hi'
      have e1 : st 16 = .int .i64 (q : Int) := (hF 16 (by decide)).trans s16
      exact opStep_value (v := st 16) (w' := wz) rfl ⟨fun h => hG (down 16 (by decide) h), e1, fun k _ _ _ h => h⟩
    obtain _ | i := i
    · obtain rfl := Option.some.inj hi'
      have e1 : st 164 = .slice (some ⟨nb, no, none⟩) nf tc := hA 15 (ha { on := 15, ground := .data } (by simp) rfl) h99
      have e2 : st 165 = .int .i64 (q : Int) := hA 16 (ha { on := 16, ground := .data } (by simp) rfl) h99
      refine opStep_value (v := Value.pointer (some ⟨nb, no + q, none⟩)) (w' := wz) ?_ ⟨fun h => hG (down 17 (by decide) h), rfl, fun k _ _ _ h => h⟩
      simp only [execOp, evalS, e1, e2]
      go_simp
    obtain _ | i := i
    · obtain rfl := Option.some.inj hi'
      have e1 : st 166 = Value.pointer (some ⟨nb, no + q, none⟩) := hA 17 (ha { on := 17, ground := .data } (by simp) rfl) h99
      have cz := keptCell (hG (at21 18 (fun h => u18 (u19 (u20 h))) hl)) cq
      refine opStep_value (v := .string oq) (w' := wz) ?_ ⟨fun h => hG (down 18 (by decide) h), rfl, fun k _ _ _ h => h⟩
      simp only [execOp, evalS, e1]
      go_simp
    obtain _ | i := i
    · obtain rfl := Option.some.inj hi'
      have e1 : st 154 = .int .i64 k := hA 5 (ha { on := 5, ground := .data } (by simp) rfl) h99
      have e2 : st 160 = .string ownN := hA 11 (ha { on := 11, ground := .data } (by simp) rfl) h99
      have e3 : st 167 = .string oq := hA 18 (ha { on := 18, ground := .data } (by simp) rfl) h99
      refine opStep_value (v := .agg #[.int .i64 k, .string ownN, .string oq]) (w' := wz) ?_ ⟨fun h => hG (down 19 (by decide) h), rfl, fun k _ _ _ h => h⟩
      simp only [execOp, List.map_toArray, List.map_cons, List.map_nil, evalS, e1, e2, e3]
      go_simp
    obtain _ | i := i
    · obtain rfl := Option.some.inj hi'
      have e1 : st 168 = .agg #[.int .i64 k, .string ownN, .string oq] := hA 19 (ha { on := 19, ground := .data } (by simp) rfl) h99
      have h21 := at21 20 u20 hl
      have hB := hG h21
      have hb := below1 wz (Obj.cells #[.int .i64 k, .string ownN, .string oq] 81)
      refine opStep_value (v := .slice (some ⟨wz.heap.size, 0, none⟩) 1 1) (w' := wz.alloc (.cells #[.int .i64 k, .string ownN, .string oq] 81)) ?_ ⟨fun _ => hB.trans (hb.mono hB.size), ⟨wz.heap.size, rfl, heap_alloc_new _ _⟩, fun k hk hLk _ h => oA_pure hk (fun e => by subst e; rw [h21] at hLk; cases hLk) (fun e => by subst e; rw [u21 hLk] at h21; cases h21) h⟩
      simp only [execOp, List.map_toArray, List.map_cons, List.map_nil, evalS, e1]
      go_simp
    obtain _ | i := i
    · obtain rfl := Option.some.inj hi'
      have hl21 : L 21 = false := hl
      have hB := hG hl21
      have e1 : st 153 = .slice b2 n d2 := hA 4 (ha { on := 4, ground := .data } (by simp) rfl) h99
      obtain ⟨b, e2, hbo⟩ : ∃ b, st 169 = .slice (some ⟨b, 0, none⟩) 1 1 ∧ wz.heap[b]? = some (.cells #[.int .i64 k, .string ownN, .string oq] 81 (0, 0)) := hA 20 (ha { on := 20, ground := .data } (by simp) rfl) hl21
      refine opStep_append2 (.tmp 153) (.tmp 169) 74 rfl 0 81 iO _ 3 40 Try.underlying74 oi oz0 oz1 oz2 rfl (by decide) (.slice b2 n d2) n _ e1 (hR.kept hB) (some ⟨b, 0, none⟩) 1 1 [.int .i64 k, .string ownN, .string oq] e2 rfl (blk_news hbo) (fun h => by cases h) (by intro u hu; simp at hu; rcases hu with rfl | rfl | rfl <;> rfl) (by unfold maxLen; omega) (by omega) (Nat.zero_le _) ?_
      intro v' w' hown hgr hvb
      refine ⟨fun h => (by unfold also at h; simp at h), ⟨wz, hB, hown, hgr, hvb⟩, fun k hk hLk hlv h => oA_pure (fun e => ?_) hk (fun e => by subst e; rw [u21 hLk] at hl21; cases hl21) h⟩
      subst e
      exact absurd hlv (by unfold live also con26; simp)
    obtain _ | i := i
    · obtain rfl := Option.some.inj hi'
      have e1 : st 149 = Value.pointer (some ⟨gj, tt * 4, none⟩) := hA 0 (ha { on := 0, ground := .data } (by simp) rfl) h99
      refine opStep_value (v := Value.pointer (some ⟨gj, tt * 4, none⟩)) (w' := wz) ?_ ⟨fun h => hG (down 22 (by decide) h), rfl, fun k _ _ _ h => h⟩
      simp only [execOp, evalS, e1]
      go_simp
    obtain _ | i := i
    · obtain rfl := Option.some.inj hi'
      have e1 : st 171 = Value.pointer (some ⟨gj, tt * 4, none⟩) := hA 22 (ha { on := 22, ground := .data } (by simp) rfl) h99
      refine opStep_value (v := Value.pointer (some ⟨gj, tt * 4 + 2, none⟩)) (w' := wz) ?_ ⟨fun h => hG (down 23 (by decide) h), rfl, fun k _ _ _ h => h⟩
      simp only [execOp, evalS, e1]
      go_simp
    obtain _ | i := i
    · obtain rfl := Option.some.inj hi'
      have h21 : L 21 = true := ha { on := 21, ground := .data } (by simp) rfl
      have e1 : st 172 = Value.pointer (some ⟨gj, tt * 4 + 2, none⟩) := hA 23 (ha { on := 23, ground := .data } (by simp) rfl) h99
      have hr : R26 w5 n ((List.range (n * 3)).map f) [.int .i64 k, .string ownN, .string oq] (.slice b2 n d2) (st 170) wz := hA 21 h21 hl
      obtain ⟨⟨u, hu⟩, hfz⟩ := hst _ _ hr
      obtain ⟨va, vc, e2⟩ : ∃ va vc, st 170 = .slice va (n + 1) vc := let ⟨_, _, h, _⟩ := hr; owns_slice h
      refine opStep_skip (w' := wz.setCell ⟨gj, tt * 4 + 2, none⟩ (st 170)) ?_ ⟨fun h => (by unfold also at h; rw [h21] at h; simp at h), ⟨wz, st 170, hr, rfl⟩, fun k hk hLk hlv h => oA_pure (fun e => ?_) (fun e => ?_) hk h⟩
      · rw [e2]
        simp only [execOp, evalS, e1, e2]
        go_simp
      · subst e
        exact absurd hlv (by unfold live also con26; rw [show (if (20 : Nat) = 20 then 21 else if (20 : Nat) = 21 then 24 else 99) = 21 from rfl, h21]; simp)
      · subst e
        exact absurd hlv (by unfold live also con26; simp)
    · exfalso
      have hlen : i + 25 < 25 := (List.getElem?_eq_some_iff.1 hi').1
      omega
  · intro L st wz hG hL hall hA
    have h99 : L 99 = false := by
      cases h : L 99 with
      | false => rfl
      | true => exact absurd (hL 99 h) (by decide)
    obtain ⟨w', v', hr, e⟩ : ∃ w' v', R26 w5 n ((List.range (n * 3)).map f) [.int .i64 k, .string ownN, .string oq] (.slice b2 n d2) v' w' ∧ wz = w'.setCell ⟨gj, tt * 4 + 2, none⟩ v' := hA 24 (hall 24 (by decide)) h99
    rw [e]
    exact hQ st w' v' hr
end Go.Proofs.Ytbnjflajhlnifaa
