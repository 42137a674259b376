import Derived.Test.YtjjggefmmeminacGreatJBase
import Derived.Test.YtjjggefmmeminacGreatRegGd
import Derived.Test.YtjjggefmmeminacGreatJGq
import Derived.Test.YtjjggefmmeminacGreatRefTexts
import Derived.Deep.CutRange
/-
  stitchref4.SameRequests: what is the same is the same.
-/
namespace Go.Proofs.YtjjggefmmeminacGreat
open Go.RowKit Go.Sort

/-- 'a[i].Service != b[i].Service || .. || !ref1.SameTexts(a[i].Fields, b[i].Fields)'. -/
def sameReqOps : List Oper := [
  { dst := some 16, op := Op.move (Operand.tmp 0), type := 28, pos := "ref.go:476", after := #[], guard := none },
   { dst := some 17, op := Op.move (Operand.tmp 5), type := 3, pos := "ref.go:476", after := #[], guard := none },
   { dst := some 18, op := Op.indexAddr 28 (Operand.tmp 16) (Operand.tmp 17), type := 0, pos := "ref.go:476", after := #[{ on := 0, ground := Ground.data }, { on := 1, ground := Ground.data }], guard := none },
   { dst := some 19, op := Op.fieldAddr 35 (Operand.tmp 18) 0, type := 0, pos := "ref.go:476", after := #[{ on := 2, ground := Ground.data }], guard := none },
   { dst := some 20, op := Op.load 3 (Operand.tmp 19), type := 3, pos := "ref.go:476", after := #[{ on := 3, ground := Ground.data }], guard := none },
   { dst := some 21, op := Op.move (Operand.tmp 1), type := 28, pos := "ref.go:476", after := #[], guard := none },
   { dst := some 22, op := Op.move (Operand.tmp 5), type := 3, pos := "ref.go:476", after := #[], guard := none },
   { dst := some 23, op := Op.indexAddr 28 (Operand.tmp 21) (Operand.tmp 22), type := 0, pos := "ref.go:476", after := #[{ on := 5, ground := Ground.data }, { on := 6, ground := Ground.data }], guard := none },
   { dst := some 24, op := Op.fieldAddr 35 (Operand.tmp 23) 0, type := 0, pos := "ref.go:476", after := #[{ on := 7, ground := Ground.data }], guard := none },
   { dst := some 25, op := Op.load 3 (Operand.tmp 24), type := 3, pos := "ref.go:476", after := #[{ on := 8, ground := Ground.data }], guard := none },
   { dst := some 26, op := Op.binOp BinOp.neq 3 (Operand.tmp 20) (Operand.tmp 25) 3, type := 4, pos := "ref.go:476", after := #[{ on := 4, ground := Ground.data }, { on := 9, ground := Ground.data }], guard := none },
   { dst := some 27, op := Op.move (Operand.tmp 26), type := 4, pos := "ref.go:476", after := #[{ on := 10, ground := Ground.data }], guard := none },
   { dst := some 28, op := Op.move (Operand.tmp 0), type := 28, pos := "ref.go:476", after := #[{ on := 11, ground := Ground.guard }], guard := some (11, false) },
   { dst := some 29, op := Op.move (Operand.tmp 5), type := 3, pos := "ref.go:476", after := #[{ on := 11, ground := Ground.guard }], guard := some (11, false) },
   { dst := some 30, op := Op.indexAddr 28 (Operand.tmp 28) (Operand.tmp 29), type := 0, pos := "ref.go:476", after := #[{ on := 12, ground := Ground.data }, { on := 13, ground := Ground.data }, { on := 11, ground := Ground.guard }], guard := some (11, false) },
   { dst := some 31, op := Op.fieldAddr 35 (Operand.tmp 30) 1, type := 0, pos := "ref.go:476", after := #[{ on := 14, ground := Ground.data }, { on := 11, ground := Ground.guard }], guard := some (11, false) },
   { dst := some 32, op := Op.load 9 (Operand.tmp 31), type := 9, pos := "ref.go:476", after := #[{ on := 15, ground := Ground.data }, { on := 11, ground := Ground.guard }], guard := some (11, false) },
   { dst := some 33, op := Op.move (Operand.tmp 1), type := 28, pos := "ref.go:476", after := #[{ on := 11, ground := Ground.guard }], guard := some (11, false) },
   { dst := some 34, op := Op.move (Operand.tmp 5), type := 3, pos := "ref.go:476", after := #[{ on := 11, ground := Ground.guard }], guard := some (11, false) },
   { dst := some 35, op := Op.indexAddr 28 (Operand.tmp 33) (Operand.tmp 34), type := 0, pos := "ref.go:476", after := #[{ on := 17, ground := Ground.data }, { on := 18, ground := Ground.data }, { on := 11, ground := Ground.guard }], guard := some (11, false) },
   { dst := some 36, op := Op.fieldAddr 35 (Operand.tmp 35) 1, type := 0, pos := "ref.go:476", after := #[{ on := 19, ground := Ground.data }, { on := 11, ground := Ground.guard }], guard := some (11, false) },
   { dst := some 37, op := Op.load 9 (Operand.tmp 36), type := 9, pos := "ref.go:476", after := #[{ on := 20, ground := Ground.data }, { on := 11, ground := Ground.guard }], guard := some (11, false) },
   { dst := some 38, op := Op.binOp BinOp.neq 9 (Operand.tmp 32) (Operand.tmp 37) 9, type := 4, pos := "ref.go:476", after := #[{ on := 16, ground := Ground.data }, { on := 21, ground := Ground.data }, { on := 11, ground := Ground.guard }], guard := some (11, false) },
   { dst := some 39, op := Op.pick (Operand.tmp 27) (Operand.const (Value.bool true)) (Operand.tmp 38), type := 4, pos := "ref.go:476", after := #[{ on := 11, ground := Ground.data }, { on := 22, ground := Ground.data }], guard := none },
   { dst := some 40, op := Op.move (Operand.tmp 39), type := 4, pos := "ref.go:476", after := #[{ on := 23, ground := Ground.data }, { on := 11, ground := Ground.chain }], guard := none },
   { dst := some 41, op := Op.move (Operand.tmp 0), type := 28, pos := "ref.go:476", after := #[{ on := 24, ground := Ground.guard }], guard := some (24, false) },
   { dst := some 42, op := Op.move (Operand.tmp 5), type := 3, pos := "ref.go:476", after := #[{ on := 24, ground := Ground.guard }], guard := some (24, false) },
   { dst := some 43, op := Op.indexAddr 28 (Operand.tmp 41) (Operand.tmp 42), type := 0, pos := "ref.go:476", after := #[{ on := 25, ground := Ground.data }, { on := 26, ground := Ground.data }, { on := 24, ground := Ground.guard }], guard := some (24, false) },
   { dst := some 44, op := Op.fieldAddr 35 (Operand.tmp 43) 2, type := 0, pos := "ref.go:476", after := #[{ on := 27, ground := Ground.data }, { on := 24, ground := Ground.guard }], guard := some (24, false) },
   { dst := some 45, op := Op.load 33 (Operand.tmp 44), type := 33, pos := "ref.go:476", after := #[{ on := 28, ground := Ground.data }, { on := 24, ground := Ground.guard }], guard := some (24, false) },
   { dst := some 46, op := Op.move (Operand.tmp 1), type := 28, pos := "ref.go:476", after := #[{ on := 24, ground := Ground.guard }], guard := some (24, false) },
   { dst := some 47, op := Op.move (Operand.tmp 5), type := 3, pos := "ref.go:476", after := #[{ on := 24, ground := Ground.guard }], guard := some (24, false) },
   { dst := some 48, op := Op.indexAddr 28 (Operand.tmp 46) (Operand.tmp 47), type := 0, pos := "ref.go:476", after := #[{ on := 30, ground := Ground.data }, { on := 31, ground := Ground.data }, { on := 24, ground := Ground.guard }], guard := some (24, false) },
   { dst := some 49, op := Op.fieldAddr 35 (Operand.tmp 48) 2, type := 0, pos := "ref.go:476", after := #[{ on := 32, ground := Ground.data }, { on := 24, ground := Ground.guard }], guard := some (24, false) },
   { dst := some 50, op := Op.load 33 (Operand.tmp 49), type := 33, pos := "ref.go:476", after := #[{ on := 33, ground := Ground.data }, { on := 24, ground := Ground.guard }], guard := some (24, false) },
   { dst := some 51, op := Op.call { callee := Callee.value (Operand.func 26), args := #[Operand.tmp 45, Operand.tmp 50], argTypes := #[33, 33] }, type := 4, pos := "ref.go:476", after := #[{ on := 29, ground := Ground.data }, { on := 34, ground := Ground.data }, { on := 24, ground := Ground.chain }, { on := 24, ground := Ground.guard }], guard := some (24, false) },
   { dst := some 52, op := Op.unOp UnOp.not 4 (Operand.tmp 51), type := 4, pos := "ref.go:476", after := #[{ on := 35, ground := Ground.data }, { on := 24, ground := Ground.guard }], guard := some (24, false) },
   { dst := some 53, op := Op.pick (Operand.tmp 40) (Operand.const (Value.bool true)) (Operand.tmp 52), type := 4, pos := "ref.go:476", after := #[{ on := 24, ground := Ground.data }, { on := 36, ground := Ground.data }], guard := none },
   { dst := some 54, op := Op.move (Operand.tmp 53), type := 4, pos := "ref.go:476", after := #[{ on := 37, ground := Ground.data }, { on := 35, ground := Ground.chain }], guard := none },
   { dst := some 55, op := Op.move (Operand.tmp 0), type := 28, pos := "ref.go:476", after := #[{ on := 38, ground := Ground.guard }], guard := some (38, false) },
   { dst := some 56, op := Op.move (Operand.tmp 5), type := 3, pos := "ref.go:476", after := #[{ on := 38, ground := Ground.guard }], guard := some (38, false) },
   { dst := some 57, op := Op.indexAddr 28 (Operand.tmp 55) (Operand.tmp 56), type := 0, pos := "ref.go:476", after := #[{ on := 39, ground := Ground.data }, { on := 40, ground := Ground.data }, { on := 38, ground := Ground.guard }], guard := some (38, false) },
   { dst := some 58, op := Op.fieldAddr 35 (Operand.tmp 57) 3, type := 0, pos := "ref.go:476", after := #[{ on := 41, ground := Ground.data }, { on := 38, ground := Ground.guard }], guard := some (38, false) },
   { dst := some 59, op := Op.load 33 (Operand.tmp 58), type := 33, pos := "ref.go:476", after := #[{ on := 42, ground := Ground.data }, { on := 38, ground := Ground.guard }], guard := some (38, false) },
   { dst := some 60, op := Op.move (Operand.tmp 1), type := 28, pos := "ref.go:476", after := #[{ on := 38, ground := Ground.guard }], guard := some (38, false) },
   { dst := some 61, op := Op.move (Operand.tmp 5), type := 3, pos := "ref.go:476", after := #[{ on := 38, ground := Ground.guard }], guard := some (38, false) },
   { dst := some 62, op := Op.indexAddr 28 (Operand.tmp 60) (Operand.tmp 61), type := 0, pos := "ref.go:476", after := #[{ on := 44, ground := Ground.data }, { on := 45, ground := Ground.data }, { on := 38, ground := Ground.guard }], guard := some (38, false) },
   { dst := some 63, op := Op.fieldAddr 35 (Operand.tmp 62) 3, type := 0, pos := "ref.go:476", after := #[{ on := 46, ground := Ground.data }, { on := 38, ground := Ground.guard }], guard := some (38, false) },
   { dst := some 64, op := Op.load 33 (Operand.tmp 63), type := 33, pos := "ref.go:476", after := #[{ on := 47, ground := Ground.data }, { on := 38, ground := Ground.guard }], guard := some (38, false) },
   { dst := some 65, op := Op.call { callee := Callee.value (Operand.func 26), args := #[Operand.tmp 59, Operand.tmp 64], argTypes := #[33, 33] }, type := 4, pos := "ref.go:476", after := #[{ on := 43, ground := Ground.data }, { on := 48, ground := Ground.data }, { on := 38, ground := Ground.chain }, { on := 38, ground := Ground.guard }], guard := some (38, false) },
   { dst := some 66, op := Op.unOp UnOp.not 4 (Operand.tmp 65), type := 4, pos := "ref.go:476", after := #[{ on := 49, ground := Ground.data }, { on := 38, ground := Ground.guard }], guard := some (38, false) },
   { dst := some 67, op := Op.pick (Operand.tmp 54) (Operand.const (Value.bool true)) (Operand.tmp 66), type := 4, pos := "ref.go:476", after := #[{ on := 38, ground := Ground.data }, { on := 50, ground := Ground.data }], guard := none }]
set_option maxRecDepth 100000 in
set_option maxHeartbeats 4000000 in
theorem sameReq {Q : Exit → Act → World → Prop} {a0 : Act} {w5 : World} {g o n ca g2 o2 cb k kn C C' fn D D' : Nat} {sv : Int} {ty : ByteArray} {A A' B B' : Option Addr}
    (hsz : [16, 17, 18, 19, 20, 21, 22, 23, 24, 25, 26, 27, 28, 29, 30, 31, 32, 33, 34, 35, 36, 37, 38, 39, 40, 41, 42, 43, 44, 45, 46, 47, 48, 49, 50, 51, 52, 53, 54, 55, 56, 57, 58, 59, 60, 61, 62, 63, 64, 65, 66, 67].all (fun d => decide (d < a0.tmps.size)) = true)
    (s0 : slots a0 0 = .slice (some ⟨g, o, none⟩) n ca) (s1 : slots a0 1 = .slice (some ⟨g2, o2, none⟩) n cb) (s5 : slots a0 5 = .int .i64 (k : Int)) (hk : k < n)
    (c0 : w5.cell? ⟨g, o + k * 4, none⟩ = some (.int .i64 sv)) (c1 : w5.cell? ⟨g, o + k * 4 + 1, none⟩ = some (.string ty)) (c2 : w5.cell? ⟨g, o + k * 4 + 2, none⟩ = some (.slice A kn C)) (c3 : w5.cell? ⟨g, o + k * 4 + 3, none⟩ = some (.slice B fn D))
    (d0 : w5.cell? ⟨g2, o2 + k * 4, none⟩ = some (.int .i64 sv)) (d1 : w5.cell? ⟨g2, o2 + k * 4 + 1, none⟩ = some (.string ty)) (d2 : w5.cell? ⟨g2, o2 + k * 4 + 2, none⟩ = some (.slice A' kn C')) (d3 : w5.cell? ⟨g2, o2 + k * 4 + 3, none⟩ = some (.slice B' fn D'))
    (hk1 : ∀ w1, Below w5.heap.size w5 w1 → Calls Tryz.prog 26 #[.slice A kn C, .slice A' kn C'] w1 fun e w' => e = .returned (.bool true) ∧ Below w1.heap.size w1 w')
    (hf1 : ∀ w1, Below w5.heap.size w5 w1 → Calls Tryz.prog 26 #[.slice B fn D, .slice B' fn D'] w1 fun e w' => e = .returned (.bool true) ∧ Below w1.heap.size w1 w')
    (hQ : ∀ s w', Below w5.heap.size w5 w' → s 67 = .bool false → Q .normal (putAll a0 s [16, 17, 18, 19, 20, 21, 22, 23, 24, 25, 26, 27, 28, 29, 30, 31, 32, 33, 34, 35, 36, 37, 38, 39, 40, 41, 42, 43, 44, 45, 46, 47, 48, 49, 50, 51, 52, 53, 54, 55, 56, 57, 58, 59, 60, 61, 62, 63, 64, 65, 66, 67]) w') :
    (Code.region 6 sameReqOps.toArray true).wp Tryz.prog Q a0 w5 := by
  have hk3 : (k : Int) < (n : Int) := by omega
  have hk0 : (0 : Int) ≤ (k : Int) := by omega
  refine wp_region_asg (by kernel_rfl) (by kernel_rfl) [16, 17, 18, 19, 20, 21, 22, 23, 24, 25, 26, 27, 28, 29, 30, 31, 32, 33, 34, 35, 36, 37, 38, 39, 40, 41, 42, 43, 44, 45, 46, 47, 48, 49, 50, 51, 52, 53, 54, 55, 56, 57, 58, 59, 60, 61, 62, 63, 64, 65, 66, 67] (by kernel_rfl) hsz (by kernel_rfl) (fun _ => 99) (asV [] [.slice (some ⟨g, o, none⟩) n ca, .int .i64 (k : Int), .pointer (some ⟨g, o + k * 4, none⟩), .pointer (some ⟨g, o + k * 4, none⟩), .int .i64 sv, .slice (some ⟨g2, o2, none⟩) n cb, .int .i64 (k : Int), .pointer (some ⟨g2, o2 + k * 4, none⟩), .pointer (some ⟨g2, o2 + k * 4, none⟩), .int .i64 sv, .bool false, .bool false, .slice (some ⟨g, o, none⟩) n ca, .int .i64 (k : Int), .pointer (some ⟨g, o + k * 4, none⟩), .pointer (some ⟨g, o + k * 4 + 1, none⟩), .string ty, .slice (some ⟨g2, o2, none⟩) n cb, .int .i64 (k : Int), .pointer (some ⟨g2, o2 + k * 4, none⟩), .pointer (some ⟨g2, o2 + k * 4 + 1, none⟩), .string ty, .bool false, .bool false, .bool false, .slice (some ⟨g, o, none⟩) n ca, .int .i64 (k : Int), .pointer (some ⟨g, o + k * 4, none⟩), .pointer (some ⟨g, o + k * 4 + 2, none⟩), .slice A kn C, .slice (some ⟨g2, o2, none⟩) n cb, .int .i64 (k : Int), .pointer (some ⟨g2, o2 + k * 4, none⟩), .pointer (some ⟨g2, o2 + k * 4 + 2, none⟩), .slice A' kn C', .bool true, .bool false, .bool false, .bool false, .slice (some ⟨g, o, none⟩) n ca, .int .i64 (k : Int), .pointer (some ⟨g, o + k * 4, none⟩), .pointer (some ⟨g, o + k * 4 + 3, none⟩), .slice B fn D, .slice (some ⟨g2, o2, none⟩) n cb, .int .i64 (k : Int), .pointer (some ⟨g2, o2 + k * 4, none⟩), .pointer (some ⟨g2, o2 + k * 4 + 3, none⟩), .slice B' fn D', .bool true, .bool false, .bool false]) (boxG w5 []) boxG.start ?_ ?_ ?_
  · intro Lz stz wz iz oz gz bz hGz hLz hAz hiz haz hgd
    have h99 : Lz 99 = false := by
      cases h : Lz 99 with
      | false => rfl
      | true => exact absurd (hLz 99 h) (by decide)
    obtain _ | iz := iz
    · obtain rfl := Option.some.inj hiz
      cases hgd
    obtain _ | iz := iz
    · obtain rfl := Option.some.inj hiz
      cases hgd
    obtain _ | iz := iz
    · obtain rfl := Option.some.inj hiz
      cases hgd
    obtain _ | iz := iz
    · obtain rfl := Option.some.inj hiz
      cases hgd
    obtain _ | iz := iz
    · obtain rfl := Option.some.inj hiz
      cases hgd
    obtain _ | iz := iz
    · obtain rfl := Option.some.inj hiz
      cases hgd
    obtain _ | iz := iz
    · obtain rfl := Option.some.inj hiz
      cases hgd
    obtain _ | iz := iz
    · obtain rfl := Option.some.inj hiz
      cases hgd
    obtain _ | iz := iz
    · obtain rfl := Option.some.inj hiz
      cases hgd
    obtain _ | iz := iz
    · obtain rfl := Option.some.inj hiz
      cases hgd
    obtain _ | iz := iz
    · obtain rfl := Option.some.inj hiz
      cases hgd
    obtain _ | iz := iz
    · obtain rfl := Option.some.inj hiz
      cases hgd
    obtain _ | iz := iz
    · obtain rfl := Option.some.inj hiz
      cases hgd
      exact ⟨27, rfl, by decide, hAz 11 (haz { on := 11, ground := .guard } (by simp) rfl) h99⟩
    obtain _ | iz := iz
    · obtain rfl := Option.some.inj hiz
      cases hgd
      exact ⟨27, rfl, by decide, hAz 11 (haz { on := 11, ground := .guard } (by simp) rfl) h99⟩
    obtain _ | iz := iz
    · obtain rfl := Option.some.inj hiz
      cases hgd
      exact ⟨27, rfl, by decide, hAz 11 (haz { on := 11, ground := .guard } (by simp) rfl) h99⟩
    obtain _ | iz := iz
    · obtain rfl := Option.some.inj hiz
      cases hgd
      exact ⟨27, rfl, by decide, hAz 11 (haz { on := 11, ground := .guard } (by simp) rfl) h99⟩
    obtain _ | iz := iz
    · obtain rfl := Option.some.inj hiz
      cases hgd
      exact ⟨27, rfl, by decide, hAz 11 (haz { on := 11, ground := .guard } (by simp) rfl) h99⟩
    obtain _ | iz := iz
    · obtain rfl := Option.some.inj hiz
      cases hgd
      exact ⟨27, rfl, by decide, hAz 11 (haz { on := 11, ground := .guard } (by simp) rfl) h99⟩
    obtain _ | iz := iz
    · obtain rfl := Option.some.inj hiz
      cases hgd
      exact ⟨27, rfl, by decide, hAz 11 (haz { on := 11, ground := .guard } (by simp) rfl) h99⟩
    obtain _ | iz := iz
    · obtain rfl := Option.some.inj hiz
      cases hgd
      exact ⟨27, rfl, by decide, hAz 11 (haz { on := 11, ground := .guard } (by simp) rfl) h99⟩
    obtain _ | iz := iz
    · obtain rfl := Option.some.inj hiz
      cases hgd
      exact ⟨27, rfl, by decide, hAz 11 (haz { on := 11, ground := .guard } (by simp) rfl) h99⟩
    obtain _ | iz := iz
    · obtain rfl := Option.some.inj hiz
      cases hgd
      exact ⟨27, rfl, by decide, hAz 11 (haz { on := 11, ground := .guard } (by simp) rfl) h99⟩
    obtain _ | iz := iz
    · obtain rfl := Option.some.inj hiz
      cases hgd
      exact ⟨27, rfl, by decide, hAz 11 (haz { on := 11, ground := .guard } (by simp) rfl) h99⟩
    obtain _ | iz := iz
    · obtain rfl := Option.some.inj hiz
      cases hgd
    obtain _ | iz := iz
    · obtain rfl := Option.some.inj hiz
      cases hgd
    obtain _ | iz := iz
    · obtain rfl := Option.some.inj hiz
      cases hgd
      exact ⟨40, rfl, by decide, hAz 24 (haz { on := 24, ground := .guard } (by simp) rfl) h99⟩
    obtain _ | iz := iz
    · obtain rfl := Option.some.inj hiz
      cases hgd
      exact ⟨40, rfl, by decide, hAz 24 (haz { on := 24, ground := .guard } (by simp) rfl) h99⟩
    obtain _ | iz := iz
    · obtain rfl := Option.some.inj hiz
      cases hgd
      exact ⟨40, rfl, by decide, hAz 24 (haz { on := 24, ground := .guard } (by simp) rfl) h99⟩
    obtain _ | iz := iz
    · obtain rfl := Option.some.inj hiz
      cases hgd
      exact ⟨40, rfl, by decide, hAz 24 (haz { on := 24, ground := .guard } (by simp) rfl) h99⟩
    obtain _ | iz := iz
    · obtain rfl := Option.some.inj hiz
      cases hgd
      exact ⟨40, rfl, by decide, hAz 24 (haz { on := 24, ground := .guard } (by simp) rfl) h99⟩
    obtain _ | iz := iz
    · obtain rfl := Option.some.inj hiz
      cases hgd
      exact ⟨40, rfl, by decide, hAz 24 (haz { on := 24, ground := .guard } (by simp) rfl) h99⟩
    obtain _ | iz := iz
    · obtain rfl := Option.some.inj hiz
      cases hgd
      exact ⟨40, rfl, by decide, hAz 24 (haz { on := 24, ground := .guard } (by simp) rfl) h99⟩
    obtain _ | iz := iz
    · obtain rfl := Option.some.inj hiz
      cases hgd
      exact ⟨40, rfl, by decide, hAz 24 (haz { on := 24, ground := .guard } (by simp) rfl) h99⟩
    obtain _ | iz := iz
    · obtain rfl := Option.some.inj hiz
      cases hgd
      exact ⟨40, rfl, by decide, hAz 24 (haz { on := 24, ground := .guard } (by simp) rfl) h99⟩
    obtain _ | iz := iz
    · obtain rfl := Option.some.inj hiz
      cases hgd
      exact ⟨40, rfl, by decide, hAz 24 (haz { on := 24, ground := .guard } (by simp) rfl) h99⟩
    obtain _ | iz := iz
    · obtain rfl := Option.some.inj hiz
      cases hgd
      exact ⟨40, rfl, by decide, hAz 24 (haz { on := 24, ground := .guard } (by simp) rfl) h99⟩
    obtain _ | iz := iz
    · obtain rfl := Option.some.inj hiz
      cases hgd
      exact ⟨40, rfl, by decide, hAz 24 (haz { on := 24, ground := .guard } (by simp) rfl) h99⟩
    obtain _ | iz := iz
    · obtain rfl := Option.some.inj hiz
      cases hgd
    obtain _ | iz := iz
    · obtain rfl := Option.some.inj hiz
      cases hgd
    obtain _ | iz := iz
    · obtain rfl := Option.some.inj hiz
      cases hgd
      exact ⟨54, rfl, by decide, hAz 38 (haz { on := 38, ground := .guard } (by simp) rfl) h99⟩
    obtain _ | iz := iz
    · obtain rfl := Option.some.inj hiz
      cases hgd
      exact ⟨54, rfl, by decide, hAz 38 (haz { on := 38, ground := .guard } (by simp) rfl) h99⟩
    obtain _ | iz := iz
    · obtain rfl := Option.some.inj hiz
      cases hgd
      exact ⟨54, rfl, by decide, hAz 38 (haz { on := 38, ground := .guard } (by simp) rfl) h99⟩
    obtain _ | iz := iz
    · obtain rfl := Option.some.inj hiz
      cases hgd
      exact ⟨54, rfl, by decide, hAz 38 (haz { on := 38, ground := .guard } (by simp) rfl) h99⟩
    obtain _ | iz := iz
    · obtain rfl := Option.some.inj hiz
      cases hgd
      exact ⟨54, rfl, by decide, hAz 38 (haz { on := 38, ground := .guard } (by simp) rfl) h99⟩
    obtain _ | iz := iz
    · obtain rfl := Option.some.inj hiz
      cases hgd
      exact ⟨54, rfl, by decide, hAz 38 (haz { on := 38, ground := .guard } (by simp) rfl) h99⟩
    obtain _ | iz := iz
    · obtain rfl := Option.some.inj hiz
      cases hgd
      exact ⟨54, rfl, by decide, hAz 38 (haz { on := 38, ground := .guard } (by simp) rfl) h99⟩
    obtain _ | iz := iz
    · obtain rfl := Option.some.inj hiz
      cases hgd
      exact ⟨54, rfl, by decide, hAz 38 (haz { on := 38, ground := .guard } (by simp) rfl) h99⟩
    obtain _ | iz := iz
    · obtain rfl := Option.some.inj hiz
      cases hgd
      exact ⟨54, rfl, by decide, hAz 38 (haz { on := 38, ground := .guard } (by simp) rfl) h99⟩
    obtain _ | iz := iz
    · obtain rfl := Option.some.inj hiz
      cases hgd
      exact ⟨54, rfl, by decide, hAz 38 (haz { on := 38, ground := .guard } (by simp) rfl) h99⟩
    obtain _ | iz := iz
    · obtain rfl := Option.some.inj hiz
      cases hgd
      exact ⟨54, rfl, by decide, hAz 38 (haz { on := 38, ground := .guard } (by simp) rfl) h99⟩
    obtain _ | iz := iz
    · obtain rfl := Option.some.inj hiz
      cases hgd
      exact ⟨54, rfl, by decide, hAz 38 (haz { on := 38, ground := .guard } (by simp) rfl) h99⟩
    obtain _ | iz := iz
    · obtain rfl := Option.some.inj hiz
      cases hgd
    · exfalso
      have hlen : iz + 52 < 52 := (List.getElem?_eq_some_iff.1 hiz).1
      omega
  · intro Lz stz wz iz oz hGz hLz hcz hAz hFz hiz hlz haz
    have h99 : Lz 99 = false := by
      cases h : Lz 99 with
      | false => rfl
      | true => exact absurd (hLz 99 h) (by decide)
    obtain _ | iz := iz
    · obtain rfl := Option.some.inj hiz
      have e1 : stz 0 = .slice (some ⟨g, o, none⟩) n ca := (hFz 0 (by decide)).trans s0
      exact opStep_value (v := stz 0) (w' := wz) rfl ⟨hGz.step (Below.refl _ _) rfl _, e1, fun k _ _ _ h => h⟩
    obtain _ | iz := iz
    · obtain rfl := Option.some.inj hiz
      have e1 : stz 5 = .int .i64 (k : Int) := (hFz 5 (by decide)).trans s5
      exact opStep_value (v := stz 5) (w' := wz) rfl ⟨hGz.step (Below.refl _ _) rfl _, e1, fun k _ _ _ h => h⟩
    obtain _ | iz := iz
    · obtain rfl := Option.some.inj hiz
      have e0 : stz 16 = .slice (some ⟨g, o, none⟩) n ca := hAz 0 (haz { on := 0, ground := .data } (by simp) rfl) h99
      have e1 : stz 17 = .int .i64 (k : Int) := hAz 1 (haz { on := 1, ground := .data } (by simp) rfl) h99
      refine opStep_value (v := .pointer (some ⟨g, o + k * 4, none⟩)) (w' := wz) ?_ ⟨hGz.step (Below.refl _ _) rfl _, rfl, fun k _ _ _ h => h⟩
      simp only [execOp, evalS, e0, e1]
      go_simp
    obtain _ | iz := iz
    · obtain rfl := Option.some.inj hiz
      have e0 : stz 18 = .pointer (some ⟨g, o + k * 4, none⟩) := hAz 2 (haz { on := 2, ground := .data } (by simp) rfl) h99
      refine opStep_value (v := .pointer (some ⟨g, o + k * 4, none⟩)) (w' := wz) ?_ ⟨hGz.step (Below.refl _ _) rfl _, rfl, fun k _ _ _ h => h⟩
      simp only [execOp, evalS, e0]
      go_simp
    obtain _ | iz := iz
    · obtain rfl := Option.some.inj hiz
      have e0 : stz 19 = .pointer (some ⟨g, o + k * 4, none⟩) := hAz 3 (haz { on := 3, ground := .data } (by simp) rfl) h99
      have z0 := keptCell hGz.below c0
      refine opStep_value (v := .int .i64 sv) (w' := wz) ?_ ⟨hGz.step (Below.refl _ _) rfl _, rfl, fun k _ _ _ h => h⟩
      simp only [execOp, evalS, e0]
      go_simp
    obtain _ | iz := iz
    · obtain rfl := Option.some.inj hiz
      have e1 : stz 1 = .slice (some ⟨g2, o2, none⟩) n cb := (hFz 1 (by decide)).trans s1
      exact opStep_value (v := stz 1) (w' := wz) rfl ⟨hGz.step (Below.refl _ _) rfl _, e1, fun k _ _ _ h => h⟩
    obtain _ | iz := iz
    · obtain rfl := Option.some.inj hiz
      have e1 : stz 5 = .int .i64 (k : Int) := (hFz 5 (by decide)).trans s5
      exact opStep_value (v := stz 5) (w' := wz) rfl ⟨hGz.step (Below.refl _ _) rfl _, e1, fun k _ _ _ h => h⟩
    obtain _ | iz := iz
    · obtain rfl := Option.some.inj hiz
      have e0 : stz 21 = .slice (some ⟨g2, o2, none⟩) n cb := hAz 5 (haz { on := 5, ground := .data } (by simp) rfl) h99
      have e1 : stz 22 = .int .i64 (k : Int) := hAz 6 (haz { on := 6, ground := .data } (by simp) rfl) h99
      refine opStep_value (v := .pointer (some ⟨g2, o2 + k * 4, none⟩)) (w' := wz) ?_ ⟨hGz.step (Below.refl _ _) rfl _, rfl, fun k _ _ _ h => h⟩
      simp only [execOp, evalS, e0, e1]
      go_simp
    obtain _ | iz := iz
    · obtain rfl := Option.some.inj hiz
      have e0 : stz 23 = .pointer (some ⟨g2, o2 + k * 4, none⟩) := hAz 7 (haz { on := 7, ground := .data } (by simp) rfl) h99
      refine opStep_value (v := .pointer (some ⟨g2, o2 + k * 4, none⟩)) (w' := wz) ?_ ⟨hGz.step (Below.refl _ _) rfl _, rfl, fun k _ _ _ h => h⟩
      simp only [execOp, evalS, e0]
      go_simp
    obtain _ | iz := iz
    · obtain rfl := Option.some.inj hiz
      have e0 : stz 24 = .pointer (some ⟨g2, o2 + k * 4, none⟩) := hAz 8 (haz { on := 8, ground := .data } (by simp) rfl) h99
      have z0 := keptCell hGz.below d0
      refine opStep_value (v := .int .i64 sv) (w' := wz) ?_ ⟨hGz.step (Below.refl _ _) rfl _, rfl, fun k _ _ _ h => h⟩
      simp only [execOp, evalS, e0]
      go_simp
    obtain _ | iz := iz
    · obtain rfl := Option.some.inj hiz
      have e0 : stz 20 = .int .i64 sv := hAz 4 (haz { on := 4, ground := .data } (by simp) rfl) h99
      have e1 : stz 25 = .int .i64 sv := hAz 9 (haz { on := 9, ground := .data } (by simp) rfl) h99
      refine opStep_value (v := .bool false) (w' := wz) ?_ ⟨hGz.step (Below.refl _ _) rfl _, rfl, fun k _ _ _ h => h⟩
      simp only [execOp, evalS, e0, e1]
      go_simp
    obtain _ | iz := iz
    · obtain rfl := Option.some.inj hiz
      have e0 : stz 26 = .bool false := hAz 10 (haz { on := 10, ground := .data } (by simp) rfl) h99
      refine opStep_value (v := .bool false) (w' := wz) ?_ ⟨hGz.step (Below.refl _ _) rfl _, rfl, fun k _ _ _ h => h⟩
      simp only [execOp, evalS, e0]
      go_simp
    obtain _ | iz := iz
    · obtain rfl := Option.some.inj hiz
      have e1 : stz 0 = .slice (some ⟨g, o, none⟩) n ca := (hFz 0 (by decide)).trans s0
      exact opStep_value (v := stz 0) (w' := wz) rfl ⟨hGz.step (Below.refl _ _) rfl _, e1, fun k _ _ _ h => h⟩
    obtain _ | iz := iz
    · obtain rfl := Option.some.inj hiz
      have e1 : stz 5 = .int .i64 (k : Int) := (hFz 5 (by decide)).trans s5
      exact opStep_value (v := stz 5) (w' := wz) rfl ⟨hGz.step (Below.refl _ _) rfl _, e1, fun k _ _ _ h => h⟩
    obtain _ | iz := iz
    · obtain rfl := Option.some.inj hiz
      have e0 : stz 28 = .slice (some ⟨g, o, none⟩) n ca := hAz 12 (haz { on := 12, ground := .data } (by simp) rfl) h99
      have e1 : stz 29 = .int .i64 (k : Int) := hAz 13 (haz { on := 13, ground := .data } (by simp) rfl) h99
      refine opStep_value (v := .pointer (some ⟨g, o + k * 4, none⟩)) (w' := wz) ?_ ⟨hGz.step (Below.refl _ _) rfl _, rfl, fun k _ _ _ h => h⟩
      simp only [execOp, evalS, e0, e1]
      go_simp
    obtain _ | iz := iz
    · obtain rfl := Option.some.inj hiz
      have e0 : stz 30 = .pointer (some ⟨g, o + k * 4, none⟩) := hAz 14 (haz { on := 14, ground := .data } (by simp) rfl) h99
      refine opStep_value (v := .pointer (some ⟨g, o + k * 4 + 1, none⟩)) (w' := wz) ?_ ⟨hGz.step (Below.refl _ _) rfl _, rfl, fun k _ _ _ h => h⟩
      simp only [execOp, evalS, e0]
      go_simp
    obtain _ | iz := iz
    · obtain rfl := Option.some.inj hiz
      have e0 : stz 31 = .pointer (some ⟨g, o + k * 4 + 1, none⟩) := hAz 15 (haz { on := 15, ground := .data } (by simp) rfl) h99
      have z0 := keptCell hGz.below c1
      refine opStep_value (v := .string ty) (w' := wz) ?_ ⟨hGz.step (Below.refl _ _) rfl _, rfl, fun k _ _ _ h => h⟩
      simp only [execOp, evalS, e0]
      go_simp
    obtain _ | iz := iz
    · obtain rfl := Option.some.inj hiz
      have e1 : stz 1 = .slice (some ⟨g2, o2, none⟩) n cb := (hFz 1 (by decide)).trans s1
      exact opStep_value (v := stz 1) (w' := wz) rfl ⟨hGz.step (Below.refl _ _) rfl _, e1, fun k _ _ _ h => h⟩
    obtain _ | iz := iz
    · obtain rfl := Option.some.inj hiz
      have e1 : stz 5 = .int .i64 (k : Int) := (hFz 5 (by decide)).trans s5
      exact opStep_value (v := stz 5) (w' := wz) rfl ⟨hGz.step (Below.refl _ _) rfl _, e1, fun k _ _ _ h => h⟩
    obtain _ | iz := iz
    · obtain rfl := Option.some.inj hiz
      have e0 : stz 33 = .slice (some ⟨g2, o2, none⟩) n cb := hAz 17 (haz { on := 17, ground := .data } (by simp) rfl) h99
      have e1 : stz 34 = .int .i64 (k : Int) := hAz 18 (haz { on := 18, ground := .data } (by simp) rfl) h99
      refine opStep_value (v := .pointer (some ⟨g2, o2 + k * 4, none⟩)) (w' := wz) ?_ ⟨hGz.step (Below.refl _ _) rfl _, rfl, fun k _ _ _ h => h⟩
      simp only [execOp, evalS, e0, e1]
      go_simp
    obtain _ | iz := iz
    · obtain rfl := Option.some.inj hiz
      have e0 : stz 35 = .pointer (some ⟨g2, o2 + k * 4, none⟩) := hAz 19 (haz { on := 19, ground := .data } (by simp) rfl) h99
      refine opStep_value (v := .pointer (some ⟨g2, o2 + k * 4 + 1, none⟩)) (w' := wz) ?_ ⟨hGz.step (Below.refl _ _) rfl _, rfl, fun k _ _ _ h => h⟩
      simp only [execOp, evalS, e0]
      go_simp
    obtain _ | iz := iz
    · obtain rfl := Option.some.inj hiz
      have e0 : stz 36 = .pointer (some ⟨g2, o2 + k * 4 + 1, none⟩) := hAz 20 (haz { on := 20, ground := .data } (by simp) rfl) h99
      have z0 := keptCell hGz.below d1
      refine opStep_value (v := .string ty) (w' := wz) ?_ ⟨hGz.step (Below.refl _ _) rfl _, rfl, fun k _ _ _ h => h⟩
      simp only [execOp, evalS, e0]
      go_simp
    obtain _ | iz := iz
    · obtain rfl := Option.some.inj hiz
      have e0 : stz 32 = .string ty := hAz 16 (haz { on := 16, ground := .data } (by simp) rfl) h99
      have e1 : stz 37 = .string ty := hAz 21 (haz { on := 21, ground := .data } (by simp) rfl) h99
      refine opStep_value (v := .bool false) (w' := wz) ?_ ⟨hGz.step (Below.refl _ _) rfl _, rfl, fun k _ _ _ h => h⟩
      simp only [execOp, evalS, e0, e1]
      go_simp
    obtain _ | iz := iz
    · obtain rfl := Option.some.inj hiz
      have e0 : stz 27 = .bool false := hAz 11 (haz { on := 11, ground := .data } (by simp) rfl) h99
      have e1 : stz 38 = .bool false := hAz 22 (haz { on := 22, ground := .data } (by simp) rfl) h99
      refine opStep_value (v := .bool false) (w' := wz) ?_ ⟨hGz.step (Below.refl _ _) rfl _, rfl, fun k _ _ _ h => h⟩
      simp only [execOp, evalS, e0, e1]
      go_simp
    obtain _ | iz := iz
    · obtain rfl := Option.some.inj hiz
      have e0 : stz 39 = .bool false := hAz 23 (haz { on := 23, ground := .data } (by simp) rfl) h99
      refine opStep_value (v := .bool false) (w' := wz) ?_ ⟨hGz.step (Below.refl _ _) rfl _, rfl, fun k _ _ _ h => h⟩
      simp only [execOp, evalS, e0]
      go_simp
    obtain _ | iz := iz
    · obtain rfl := Option.some.inj hiz
      have e1 : stz 0 = .slice (some ⟨g, o, none⟩) n ca := (hFz 0 (by decide)).trans s0
      exact opStep_value (v := stz 0) (w' := wz) rfl ⟨hGz.step (Below.refl _ _) rfl _, e1, fun k _ _ _ h => h⟩
    obtain _ | iz := iz
    · obtain rfl := Option.some.inj hiz
      have e1 : stz 5 = .int .i64 (k : Int) := (hFz 5 (by decide)).trans s5
      exact opStep_value (v := stz 5) (w' := wz) rfl ⟨hGz.step (Below.refl _ _) rfl _, e1, fun k _ _ _ h => h⟩
    obtain _ | iz := iz
    · obtain rfl := Option.some.inj hiz
      have e0 : stz 41 = .slice (some ⟨g, o, none⟩) n ca := hAz 25 (haz { on := 25, ground := .data } (by simp) rfl) h99
      have e1 : stz 42 = .int .i64 (k : Int) := hAz 26 (haz { on := 26, ground := .data } (by simp) rfl) h99
      refine opStep_value (v := .pointer (some ⟨g, o + k * 4, none⟩)) (w' := wz) ?_ ⟨hGz.step (Below.refl _ _) rfl _, rfl, fun k _ _ _ h => h⟩
      simp only [execOp, evalS, e0, e1]
      go_simp
    obtain _ | iz := iz
    · obtain rfl := Option.some.inj hiz
      have e0 : stz 43 = .pointer (some ⟨g, o + k * 4, none⟩) := hAz 27 (haz { on := 27, ground := .data } (by simp) rfl) h99
      refine opStep_value (v := .pointer (some ⟨g, o + k * 4 + 2, none⟩)) (w' := wz) ?_ ⟨hGz.step (Below.refl _ _) rfl _, rfl, fun k _ _ _ h => h⟩
      simp only [execOp, evalS, e0]
      go_simp
    obtain _ | iz := iz
    · obtain rfl := Option.some.inj hiz
      have e0 : stz 44 = .pointer (some ⟨g, o + k * 4 + 2, none⟩) := hAz 28 (haz { on := 28, ground := .data } (by simp) rfl) h99
      have z0 := keptCell hGz.below c2
      refine opStep_value (v := .slice A kn C) (w' := wz) ?_ ⟨hGz.step (Below.refl _ _) rfl _, rfl, fun k _ _ _ h => h⟩
      simp only [execOp, evalS, e0]
      go_simp
    obtain _ | iz := iz
    · obtain rfl := Option.some.inj hiz
      have e1 : stz 1 = .slice (some ⟨g2, o2, none⟩) n cb := (hFz 1 (by decide)).trans s1
      exact opStep_value (v := stz 1) (w' := wz) rfl ⟨hGz.step (Below.refl _ _) rfl _, e1, fun k _ _ _ h => h⟩
    obtain _ | iz := iz
    · obtain rfl := Option.some.inj hiz
      have e1 : stz 5 = .int .i64 (k : Int) := (hFz 5 (by decide)).trans s5
      exact opStep_value (v := stz 5) (w' := wz) rfl ⟨hGz.step (Below.refl _ _) rfl _, e1, fun k _ _ _ h => h⟩
    obtain _ | iz := iz
    · obtain rfl := Option.some.inj hiz
      have e0 : stz 46 = .slice (some ⟨g2, o2, none⟩) n cb := hAz 30 (haz { on := 30, ground := .data } (by simp) rfl) h99
      have e1 : stz 47 = .int .i64 (k : Int) := hAz 31 (haz { on := 31, ground := .data } (by simp) rfl) h99
      refine opStep_value (v := .pointer (some ⟨g2, o2 + k * 4, none⟩)) (w' := wz) ?_ ⟨hGz.step (Below.refl _ _) rfl _, rfl, fun k _ _ _ h => h⟩
      simp only [execOp, evalS, e0, e1]
      go_simp
    obtain _ | iz := iz
    · obtain rfl := Option.some.inj hiz
      have e0 : stz 48 = .pointer (some ⟨g2, o2 + k * 4, none⟩) := hAz 32 (haz { on := 32, ground := .data } (by simp) rfl) h99
      refine opStep_value (v := .pointer (some ⟨g2, o2 + k * 4 + 2, none⟩)) (w' := wz) ?_ ⟨hGz.step (Below.refl _ _) rfl _, rfl, fun k _ _ _ h => h⟩
      simp only [execOp, evalS, e0]
      go_simp
    obtain _ | iz := iz
    · obtain rfl := Option.some.inj hiz
      have e0 : stz 49 = .pointer (some ⟨g2, o2 + k * 4 + 2, none⟩) := hAz 33 (haz { on := 33, ground := .data } (by simp) rfl) h99
      have z0 := keptCell hGz.below d2
      refine opStep_value (v := .slice A' kn C') (w' := wz) ?_ ⟨hGz.step (Below.refl _ _) rfl _, rfl, fun k _ _ _ h => h⟩
      simp only [execOp, evalS, e0]
      go_simp
    obtain _ | iz := iz
    · obtain rfl := Option.some.inj hiz
      have e0 : stz 45 = .slice A kn C := hAz 29 (haz { on := 29, ground := .data } (by simp) rfl) h99
      have e1 : stz 50 = .slice A' kn C' := hAz 34 (haz { on := 34, ground := .data } (by simp) rfl) h99
      refine opStep_fn 26 #[.tmp 45, .tmp 50] #[33, 33] rfl (enters_of Tryz.func26 (by kernel_rfl) rfl) #[.slice A kn C, .slice A' kn C'] (by simp [evalS, e0, e1]) ((hk1 wz hGz.below).mono fun e w' h => ?_)
      obtain ⟨rfl, hw'⟩ := h
      exact ⟨_, rfl, hGz.step hw' rfl _, rfl, fun k _ _ _ h => h⟩
    obtain _ | iz := iz
    · obtain rfl := Option.some.inj hiz
      have e0 : stz 51 = .bool true := hAz 35 (haz { on := 35, ground := .data } (by simp) rfl) h99
      refine opStep_value (v := .bool false) (w' := wz) ?_ ⟨hGz.step (Below.refl _ _) rfl _, rfl, fun k _ _ _ h => h⟩
      simp only [execOp, evalS, e0]
      go_simp
    obtain _ | iz := iz
    · obtain rfl := Option.some.inj hiz
      have e0 : stz 40 = .bool false := hAz 24 (haz { on := 24, ground := .data } (by simp) rfl) h99
      have e1 : stz 52 = .bool false := hAz 36 (haz { on := 36, ground := .data } (by simp) rfl) h99
      refine opStep_value (v := .bool false) (w' := wz) ?_ ⟨hGz.step (Below.refl _ _) rfl _, rfl, fun k _ _ _ h => h⟩
      simp only [execOp, evalS, e0, e1]
      go_simp
    obtain _ | iz := iz
    · obtain rfl := Option.some.inj hiz
      have e0 : stz 53 = .bool false := hAz 37 (haz { on := 37, ground := .data } (by simp) rfl) h99
      refine opStep_value (v := .bool false) (w' := wz) ?_ ⟨hGz.step (Below.refl _ _) rfl _, rfl, fun k _ _ _ h => h⟩
      simp only [execOp, evalS, e0]
      go_simp
    obtain _ | iz := iz
    · obtain rfl := Option.some.inj hiz
      have e1 : stz 0 = .slice (some ⟨g, o, none⟩) n ca := (hFz 0 (by decide)).trans s0
      exact opStep_value (v := stz 0) (w' := wz) rfl ⟨hGz.step (Below.refl _ _) rfl _, e1, fun k _ _ _ h => h⟩
    obtain _ | iz := iz
    · obtain rfl := Option.some.inj hiz
      have e1 : stz 5 = .int .i64 (k : Int) := (hFz 5 (by decide)).trans s5
      exact opStep_value (v := stz 5) (w' := wz) rfl ⟨hGz.step (Below.refl _ _) rfl _, e1, fun k _ _ _ h => h⟩
    obtain _ | iz := iz
    · obtain rfl := Option.some.inj hiz
      have e0 : stz 55 = .slice (some ⟨g, o, none⟩) n ca := hAz 39 (haz { on := 39, ground := .data } (by simp) rfl) h99
      have e1 : stz 56 = .int .i64 (k : Int) := hAz 40 (haz { on := 40, ground := .data } (by simp) rfl) h99
      refine opStep_value (v := .pointer (some ⟨g, o + k * 4, none⟩)) (w' := wz) ?_ ⟨hGz.step (Below.refl _ _) rfl _, rfl, fun k _ _ _ h => h⟩
      simp only [execOp, evalS, e0, e1]
      go_simp
    obtain _ | iz := iz
    · obtain rfl := Option.some.inj hiz
      have e0 : stz 57 = .pointer (some ⟨g, o + k * 4, none⟩) := hAz 41 (haz { on := 41, ground := .data } (by simp) rfl) h99
      refine opStep_value (v := .pointer (some ⟨g, o + k * 4 + 3, none⟩)) (w' := wz) ?_ ⟨hGz.step (Below.refl _ _) rfl _, rfl, fun k _ _ _ h => h⟩
      simp only [execOp, evalS, e0]
      go_simp
    obtain _ | iz := iz
    · obtain rfl := Option.some.inj hiz
      have e0 : stz 58 = .pointer (some ⟨g, o + k * 4 + 3, none⟩) := hAz 42 (haz { on := 42, ground := .data } (by simp) rfl) h99
      have z0 := keptCell hGz.below c3
      refine opStep_value (v := .slice B fn D) (w' := wz) ?_ ⟨hGz.step (Below.refl _ _) rfl _, rfl, fun k _ _ _ h => h⟩
      simp only [execOp, evalS, e0]
      go_simp
    obtain _ | iz := iz
    · obtain rfl := Option.some.inj hiz
      have e1 : stz 1 = .slice (some ⟨g2, o2, none⟩) n cb := (hFz 1 (by decide)).trans s1
      exact opStep_value (v := stz 1) (w' := wz) rfl ⟨hGz.step (Below.refl _ _) rfl _, e1, fun k _ _ _ h => h⟩
    obtain _ | iz := iz
    · obtain rfl := Option.some.inj hiz
      have e1 : stz 5 = .int .i64 (k : Int) := (hFz 5 (by decide)).trans s5
      exact opStep_value (v := stz 5) (w' := wz) rfl ⟨hGz.step (Below.refl _ _) rfl _, e1, fun k _ _ _ h => h⟩
    obtain _ | iz := iz
    · obtain rfl := Option.some.inj hiz
      have e0 : stz 60 = .slice (some ⟨g2, o2, none⟩) n cb := hAz 44 (haz { on := 44, ground := .data } (by simp) rfl) h99
      have e1 : stz 61 = .int .i64 (k : Int) := hAz 45 (haz { on := 45, ground := .data } (by simp) rfl) h99
      refine opStep_value (v := .pointer (some ⟨g2, o2 + k * 4, none⟩)) (w' := wz) ?_ ⟨hGz.step (Below.refl _ _) rfl _, rfl, fun k _ _ _ h => h⟩
      simp only [execOp, evalS, e0, e1]
      go_simp
    obtain _ | iz := iz
    · obtain rfl := Option.some.inj hiz
      have e0 : stz 62 = .pointer (some ⟨g2, o2 + k * 4, none⟩) := hAz 46 (haz { on := 46, ground := .data } (by simp) rfl) h99
      refine opStep_value (v := .pointer (some ⟨g2, o2 + k * 4 + 3, none⟩)) (w' := wz) ?_ ⟨hGz.step (Below.refl _ _) rfl _, rfl, fun k _ _ _ h => h⟩
      simp only [execOp, evalS, e0]
      go_simp
    obtain _ | iz := iz
    · obtain rfl := Option.some.inj hiz
      have e0 : stz 63 = .pointer (some ⟨g2, o2 + k * 4 + 3, none⟩) := hAz 47 (haz { on := 47, ground := .data } (by simp) rfl) h99
      have z0 := keptCell hGz.below d3
      refine opStep_value (v := .slice B' fn D') (w' := wz) ?_ ⟨hGz.step (Below.refl _ _) rfl _, rfl, fun k _ _ _ h => h⟩
      simp only [execOp, evalS, e0]
      go_simp
    obtain _ | iz := iz
    · obtain rfl := Option.some.inj hiz
      have e0 : stz 59 = .slice B fn D := hAz 43 (haz { on := 43, ground := .data } (by simp) rfl) h99
      have e1 : stz 64 = .slice B' fn D' := hAz 48 (haz { on := 48, ground := .data } (by simp) rfl) h99
      refine opStep_fn 26 #[.tmp 59, .tmp 64] #[33, 33] rfl (enters_of Tryz.func26 (by kernel_rfl) rfl) #[.slice B fn D, .slice B' fn D'] (by simp [evalS, e0, e1]) ((hf1 wz hGz.below).mono fun e w' h => ?_)
      obtain ⟨rfl, hw'⟩ := h
      exact ⟨_, rfl, hGz.step hw' rfl _, rfl, fun k _ _ _ h => h⟩
    obtain _ | iz := iz
    · obtain rfl := Option.some.inj hiz
      have e0 : stz 65 = .bool true := hAz 49 (haz { on := 49, ground := .data } (by simp) rfl) h99
      refine opStep_value (v := .bool false) (w' := wz) ?_ ⟨hGz.step (Below.refl _ _) rfl _, rfl, fun k _ _ _ h => h⟩
      simp only [execOp, evalS, e0]
      go_simp
    obtain _ | iz := iz
    · obtain rfl := Option.some.inj hiz
      have e0 : stz 54 = .bool false := hAz 38 (haz { on := 38, ground := .data } (by simp) rfl) h99
      have e1 : stz 66 = .bool false := hAz 50 (haz { on := 50, ground := .data } (by simp) rfl) h99
      refine opStep_value (v := .bool false) (w' := wz) ?_ ⟨hGz.step (Below.refl _ _) rfl _, rfl, fun k _ _ _ h => h⟩
      simp only [execOp, evalS, e0, e1]
      go_simp
    · exfalso
      have hlen : iz + 52 < 52 := (List.getElem?_eq_some_iff.1 hiz).1
      omega
  · intro Lz stz wz hGz hLz hall hvals
    have h99 : Lz 99 = false := by
      cases h : Lz 99 with
      | false => rfl
      | true => exact absurd (hLz 99 h) (by decide)
    exact hQ stz wz hGz.below (hvals 51 (hall 51 (by decide)) h99)
set_option maxRecDepth 100000 in
set_option maxHeartbeats 4000000 in
theorem sameReqs_any (a b : Option Addr) (ca cb : Nat) (L : List PReq) (w : World) (hA : ReqsAt w a L) (hB : ReqsAt w b L) :
    Calls Tryz.prog 12 #[.slice a L.length ca, .slice b L.length cb] w fun e w' => e = .returned (.bool true) ∧ Below w.heap.size w w' := by
  have hn : L.length ≤ 9223372036854775807 := hA.1
  have HA := Hid.intro hA
  have HB := Hid.intro hB
  clear hA hB
  go_enter Tryz.func12, Tryz.ntmps12
  go_wp2_with fail
  go_loopw [13] (fun i wr => ∃ k : Nat, k ≤ L.length ∧ i = .int .i64 k ∧ Below w.heap.size w wr) (fun i _ => L.length - (intOf i).toNat)
  case atStart => exact ⟨0, Nat.zero_le _, rfl, Below.refl _ _⟩
  case round =>
    obtain ⟨k, hk, rfl, hw⟩ := hrel
    by_cases hlt : k < L.length
    · obtain ⟨g, o, A, C, B, D, rfl, c0, c1, c2, c3, -, -, x1, x2⟩ := (HA.out.kept hw).2 k hlt
      obtain ⟨g2, o2, A', C', B', D', rfl, d0, d1, d2, d3, -, -, y1, y2⟩ := (HB.out.kept hw).2 k hlt
      have hlt' : (k : Int) < (L.length : Int) := by omega
      have HC : Hid (wr.cell? ⟨g, o + k * 4, none⟩ = some (.int .i64 (reqN L k).svc) ∧ wr.cell? ⟨g, o + k * 4 + 1, none⟩ = some (.string (reqN L k).type) ∧ wr.cell? ⟨g, o + k * 4 + 2, none⟩ = some (.slice A (reqN L k).keys.length C) ∧ wr.cell? ⟨g, o + k * 4 + 3, none⟩ = some (.slice B (reqN L k).fields.length D)) := Hid.intro ⟨c0, c1, c2, c3⟩
      have HD : Hid (wr.cell? ⟨g2, o2 + k * 4, none⟩ = some (.int .i64 (reqN L k).svc) ∧ wr.cell? ⟨g2, o2 + k * 4 + 1, none⟩ = some (.string (reqN L k).type) ∧ wr.cell? ⟨g2, o2 + k * 4 + 2, none⟩ = some (.slice A' (reqN L k).keys.length C') ∧ wr.cell? ⟨g2, o2 + k * 4 + 3, none⟩ = some (.slice B' (reqN L k).fields.length D')) := Hid.intro ⟨d0, d1, d2, d3⟩
      have HX := Hid.intro (And.intro x1 x2)
      have HY := Hid.intro (And.intro y1 y2)
      have HW := Hid.intro hw
      clear c0 c1 c2 c3 d0 d1 d2 d3 x1 x2 y1 y2 hw
      go_upto_region 6 with fail
      refine sameReq (k := k) (by kernel_rfl) rfl rfl rfl hlt HC.out.1 HC.out.2.1 HC.out.2.2.1 HC.out.2.2.2 HD.out.1 HD.out.2.1 HD.out.2.2.1 HD.out.2.2.2 (fun w1 h1 => sameTexts_any A A' _ C C' _ w1 (HX.out.1.kept h1) (HY.out.1.kept h1)) (fun w1 h1 => sameTexts_any B B' _ D D' _ w1 (HX.out.2.kept h1) (HY.out.2.kept h1)) ?_
      intro s w2 hB2 hs67
      have HW2 := Hid.intro (HW.out.trans (hB2.mono HW.out.size))
      clear hB2 HC HD HX HY HW
      simp only [putAll, Act.put, List.setIfInBounds_toArray, List.set_cons_succ, List.set_cons_zero, hs67]
      generalize s 16 = t16
      generalize s 17 = t17
      generalize s 18 = t18
      generalize s 19 = t19
      generalize s 20 = t20
      generalize s 21 = t21
      generalize s 22 = t22
      generalize s 23 = t23
      generalize s 24 = t24
      generalize s 25 = t25
      generalize s 26 = t26
      generalize s 27 = t27
      generalize s 28 = t28
      generalize s 29 = t29
      generalize s 30 = t30
      generalize s 31 = t31
      generalize s 32 = t32
      generalize s 33 = t33
      generalize s 34 = t34
      generalize s 35 = t35
      generalize s 36 = t36
      generalize s 37 = t37
      generalize s 38 = t38
      generalize s 39 = t39
      generalize s 40 = t40
      generalize s 41 = t41
      generalize s 42 = t42
      generalize s 43 = t43
      generalize s 44 = t44
      generalize s 45 = t45
      generalize s 46 = t46
      generalize s 47 = t47
      generalize s 48 = t48
      generalize s 49 = t49
      generalize s 50 = t50
      generalize s 51 = t51
      generalize s 52 = t52
      generalize s 53 = t53
      generalize s 54 = t54
      generalize s 55 = t55
      generalize s 56 = t56
      generalize s 57 = t57
      generalize s 58 = t58
      generalize s 59 = t59
      generalize s 60 = t60
      generalize s 61 = t61
      generalize s 62 = t62
      generalize s 63 = t63
      generalize s 64 = t64
      generalize s 65 = t65
      generalize s 66 = t66
      clear hs67
      go_wp2_with fail
      go_roundw
      case rel => exact ⟨k + 1, by omega, by go_num, HW2.out⟩
      case measure => simp [intOf]; omega
    · go_wp2_with fail
      go_ret
      exact ⟨rfl, hw⟩
end Go.Proofs.YtjjggefmmeminacGreat
