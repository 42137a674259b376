import Derived.Test.YtjjggefmmeminabGreatMnOut
import Derived.Test.YtjjggefmmeminabGreatJRe
/-
  Regions of stitchref4.There and stitchref4.Get that draw their order.
-/
namespace Go.Proofs.YtjjggefmmeminabGreat
open Go.RowKit Go.Sort

/-- 'ref1.Thing(l[h.Service].Things, h.Type, key) != nil'. -/
def thereThingOps : List Oper := [
  { dst := some 18, op := Op.move (Operand.tmp 0), type := 22, pos := "ref.go:334", after := #[], guard := none },
   { dst := some 19, op := Op.fieldAddr 92 (Operand.tmp 8) 0, type := 0, pos := "ref.go:334", after := #[], guard := none },
   { dst := some 20, op := Op.load 3 (Operand.tmp 19), type := 3, pos := "ref.go:334", after := #[{ on := 1, ground := Ground.data }], guard := none },
   { dst := some 21, op := Op.indexAddr 22 (Operand.tmp 18) (Operand.tmp 20), type := 0, pos := "ref.go:334", after := #[{ on := 0, ground := Ground.data }, { on := 2, ground := Ground.data }], guard := none },
   { dst := some 22, op := Op.fieldAddr 81 (Operand.tmp 21) 2, type := 0, pos := "ref.go:334", after := #[{ on := 3, ground := Ground.data }], guard := none },
   { dst := some 23, op := Op.load 79 (Operand.tmp 22), type := 79, pos := "ref.go:334", after := #[{ on := 4, ground := Ground.data }], guard := none },
   { dst := some 24, op := Op.fieldAddr 92 (Operand.tmp 8) 1, type := 0, pos := "ref.go:334", after := #[], guard := none },
   { dst := some 25, op := Op.load 9 (Operand.tmp 24), type := 9, pos := "ref.go:334", after := #[{ on := 6, ground := Ground.data }], guard := none },
   { dst := some 26, op := Op.move (Operand.tmp 2), type := 9, pos := "ref.go:334", after := #[], guard := none },
   { dst := some 27, op := Op.call { callee := Callee.value (Operand.func 44), args := #[Operand.tmp 23, Operand.tmp 25, Operand.tmp 26], argTypes := #[79, 9, 9] }, type := 115, pos := "ref.go:334", after := #[{ on := 5, ground := Ground.data }, { on := 7, ground := Ground.data }, { on := 8, ground := Ground.data }], guard := none },
   { dst := some 28, op := Op.binOp BinOp.neq 115 (Operand.tmp 27) (Operand.const (Value.pointer none)) 115, type := 4, pos := "ref.go:334", after := #[{ on := 9, ground := Ground.data }], guard := none }]
set_option maxRecDepth 100000 in
set_option maxHeartbeats 4000000 in
theorem thereThing {Q : Exit → Act → World → Prop} {a0 : Act} {w5 : World} {bo l lo n lcap s xn xc : Nat} {xa tp : Option Addr} {ty key : ByteArray}
    (hsz : [18, 19, 20, 21, 22, 23, 24, 25, 26, 27, 28].all (fun d => decide (d < a0.tmps.size)) = true)
    (s0 : slots a0 0 = .slice (some ⟨l, lo, none⟩) n lcap) (s8 : slots a0 8 = .pointer (some ⟨bo, 0, none⟩)) (s2 : slots a0 2 = .string key) (hs : s < n) (c0 : w5.cell? ⟨bo, 0, none⟩ = some (.int .i64 (s : Int))) (c1 : w5.cell? ⟨bo, 1, none⟩ = some (.string ty)) (cx : w5.cell? ⟨l, lo + s * 3 + 2, none⟩ = some (.slice xa xn xc))
    (hcall : ∀ w1, Below w5.heap.size w5 w1 → Calls Tryz.prog 44 #[.slice xa xn xc, .string ty, .string key] w1 fun e w' => e = .returned (.pointer tp) ∧ Below w1.heap.size w1 w')
    (hQ : ∀ s w', Below w5.heap.size w5 w' → s 28 = .bool tp.isSome → Q .normal (putAll a0 s [18, 19, 20, 21, 22, 23, 24, 25, 26, 27, 28]) w') :
    (Code.region 4 thereThingOps.toArray true).wp Tryz.prog Q a0 w5 := by
  have hs1 : (s : Int) < (n : Int) := by omega
  have hs0 : (0 : Int) ≤ (s : Int) := by omega
  refine wp_region_as (by kernel_rfl) (by kernel_rfl) [18, 19, 20, 21, 22, 23, 24, 25, 26, 27, 28] (by kernel_rfl) hsz (by kernel_rfl) (fun _ => 99) (asV [] [.slice (some ⟨l, lo, none⟩) n lcap, .pointer (some ⟨bo, 0, none⟩), .int .i64 (s : Int), .pointer (some ⟨l, lo + s * 3, none⟩), .pointer (some ⟨l, lo + s * 3 + 2, none⟩), .slice xa xn xc, .pointer (some ⟨bo, 1, none⟩), .string ty, .string key, .pointer tp, .bool tp.isSome]) (boxG w5 []) boxG.start ?_ ?_
  · intro Lz stz wz iz oz hGz hLz hcz hAz hFz hiz hlz haz
    have h99 : Lz 99 = false := by
      cases h : Lz 99 with
      | false => rfl
      | true => exact absurd (hLz 99 h) (by decide)
    obtain _ | iz := iz
    · obtain rfl := Option.some.inj hiz
      have e1 : stz 0 = .slice (some ⟨l, lo, none⟩) n lcap := (hFz 0 (by decide)).trans s0
      exact opStep_value (v := stz 0) (w' := wz) rfl ⟨hGz.step (Below.refl _ _) rfl _, e1, fun k _ _ _ h => h⟩
    obtain _ | iz := iz
    · obtain rfl := Option.some.inj hiz
      have e0 : stz 8 = .pointer (some ⟨bo, 0, none⟩) := (hFz 8 (by decide)).trans s8
      refine opStep_value (v := .pointer (some ⟨bo, 0, none⟩)) (w' := wz) ?_ ⟨hGz.step (Below.refl _ _) rfl _, rfl, fun k _ _ _ h => h⟩
      simp only [execOp, evalS, e0]
      go_simp
    obtain _ | iz := iz
    · obtain rfl := Option.some.inj hiz
      have e0 : stz 19 = .pointer (some ⟨bo, 0, none⟩) := hAz 1 (haz { on := 1, ground := .data } (by simp) rfl) h99
      have z0 := keptCell hGz.below c0
      refine opStep_value (v := .int .i64 (s : Int)) (w' := wz) ?_ ⟨hGz.step (Below.refl _ _) rfl _, rfl, fun k _ _ _ h => h⟩
      simp only [execOp, evalS, e0]
      go_simp
    obtain _ | iz := iz
    · obtain rfl := Option.some.inj hiz
      have e0 : stz 18 = .slice (some ⟨l, lo, none⟩) n lcap := hAz 0 (haz { on := 0, ground := .data } (by simp) rfl) h99
      have e1 : stz 20 = .int .i64 (s : Int) := hAz 2 (haz { on := 2, ground := .data } (by simp) rfl) h99
      refine opStep_value (v := .pointer (some ⟨l, lo + s * 3, none⟩)) (w' := wz) ?_ ⟨hGz.step (Below.refl _ _) rfl _, rfl, fun k _ _ _ h => h⟩
      simp only [execOp, evalS, e0, e1]
      go_simp
    obtain _ | iz := iz
    · obtain rfl := Option.some.inj hiz
      have e0 : stz 21 = .pointer (some ⟨l, lo + s * 3, none⟩) := hAz 3 (haz { on := 3, ground := .data } (by simp) rfl) h99
      refine opStep_value (v := .pointer (some ⟨l, lo + s * 3 + 2, none⟩)) (w' := wz) ?_ ⟨hGz.step (Below.refl _ _) rfl _, rfl, fun k _ _ _ h => h⟩
      simp only [execOp, evalS, e0]
      go_simp
    obtain _ | iz := iz
    · obtain rfl := Option.some.inj hiz
      have e0 : stz 22 = .pointer (some ⟨l, lo + s * 3 + 2, none⟩) := hAz 4 (haz { on := 4, ground := .data } (by simp) rfl) h99
      have z0 := keptCell hGz.below cx
      refine opStep_value (v := .slice xa xn xc) (w' := wz) ?_ ⟨hGz.step (Below.refl _ _) rfl _, rfl, fun k _ _ _ h => h⟩
      simp only [execOp, evalS, e0]
      go_simp
    obtain _ | iz := iz
    · obtain rfl := Option.some.inj hiz
      have e0 : stz 8 = .pointer (some ⟨bo, 0, none⟩) := (hFz 8 (by decide)).trans s8
      refine opStep_value (v := .pointer (some ⟨bo, 1, none⟩)) (w' := wz) ?_ ⟨hGz.step (Below.refl _ _) rfl _, rfl, fun k _ _ _ h => h⟩
      simp only [execOp, evalS, e0]
      go_simp
    obtain _ | iz := iz
    · obtain rfl := Option.some.inj hiz
      have e0 : stz 24 = .pointer (some ⟨bo, 1, none⟩) := hAz 6 (haz { on := 6, ground := .data } (by simp) rfl) h99
      have z0 := keptCell hGz.below c1
      refine opStep_value (v := .string ty) (w' := wz) ?_ ⟨hGz.step (Below.refl _ _) rfl _, rfl, fun k _ _ _ h => h⟩
      simp only [execOp, evalS, e0]
      go_simp
    obtain _ | iz := iz
    · obtain rfl := Option.some.inj hiz
      have e1 : stz 2 = .string key := (hFz 2 (by decide)).trans s2
      exact opStep_value (v := stz 2) (w' := wz) rfl ⟨hGz.step (Below.refl _ _) rfl _, e1, fun k _ _ _ h => h⟩
    obtain _ | iz := iz
    · obtain rfl := Option.some.inj hiz
      have e0 : stz 23 = .slice xa xn xc := hAz 5 (haz { on := 5, ground := .data } (by simp) rfl) h99
      have e1 : stz 25 = .string ty := hAz 7 (haz { on := 7, ground := .data } (by simp) rfl) h99
      have e2 : stz 26 = .string key := hAz 8 (haz { on := 8, ground := .data } (by simp) rfl) h99
      refine opStep_fn 44 #[.tmp 23, .tmp 25, .tmp 26] #[79, 9, 9] rfl (enters_of Tryz.func44 (by kernel_rfl) rfl) #[.slice xa xn xc, .string ty, .string key] (by simp [evalS, e0, e1, e2]) ((hcall wz hGz.below).mono fun e w' h => ?_)
      obtain ⟨rfl, hw'⟩ := h
      exact ⟨_, rfl, hGz.step hw' rfl _, rfl, fun k _ _ _ h => h⟩
    obtain _ | iz := iz
    · obtain rfl := Option.some.inj hiz
      have e0 : stz 27 = .pointer tp := hAz 9 (haz { on := 9, ground := .data } (by simp) rfl) h99
      refine opStep_value (v := .bool tp.isSome) (w' := wz) ?_ ⟨hGz.step (Below.refl _ _) rfl _, rfl, fun k _ _ _ h => h⟩
      simp only [execOp, evalS, e0]
      cases tp <;> go_simp
    · exfalso
      have hlen : iz + 11 < 11 := (List.getElem?_eq_some_iff.1 hiz).1
      omega
  · intro Lz stz wz hGz hLz hall hvals
    have h99 : Lz 99 = false := by
      cases h : Lz 99 with
      | false => rfl
      | true => exact absurd (hLz 99 h) (by decide)
    exact hQ stz wz hGz.below (hvals 10 (hall 10 (by decide)) h99)
/-- 'x := ref1.Thing(l[o.Service].Things, o.Type, key)'. -/
def getThingOps : List Oper := [
  { dst := some 58, op := Op.move (Operand.tmp 0), type := 22, pos := "ref.go:348", after := #[], guard := none },
   { dst := some 59, op := Op.fieldAddr 92 (Operand.tmp 16) 0, type := 0, pos := "ref.go:348", after := #[], guard := none },
   { dst := some 60, op := Op.load 3 (Operand.tmp 59), type := 3, pos := "ref.go:348", after := #[{ on := 1, ground := Ground.data }], guard := none },
   { dst := some 61, op := Op.indexAddr 22 (Operand.tmp 58) (Operand.tmp 60), type := 0, pos := "ref.go:348", after := #[{ on := 0, ground := Ground.data }, { on := 2, ground := Ground.data }], guard := none },
   { dst := some 62, op := Op.fieldAddr 81 (Operand.tmp 61) 2, type := 0, pos := "ref.go:348", after := #[{ on := 3, ground := Ground.data }], guard := none },
   { dst := some 63, op := Op.load 79 (Operand.tmp 62), type := 79, pos := "ref.go:348", after := #[{ on := 4, ground := Ground.data }], guard := none },
   { dst := some 64, op := Op.fieldAddr 92 (Operand.tmp 16) 1, type := 0, pos := "ref.go:348", after := #[], guard := none },
   { dst := some 65, op := Op.load 9 (Operand.tmp 64), type := 9, pos := "ref.go:348", after := #[{ on := 6, ground := Ground.data }], guard := none },
   { dst := some 66, op := Op.move (Operand.tmp 3), type := 9, pos := "ref.go:348", after := #[], guard := none },
   { dst := some 67, op := Op.call { callee := Callee.value (Operand.func 44), args := #[Operand.tmp 63, Operand.tmp 65, Operand.tmp 66], argTypes := #[79, 9, 9] }, type := 115, pos := "ref.go:348", after := #[{ on := 5, ground := Ground.data }, { on := 7, ground := Ground.data }, { on := 8, ground := Ground.data }], guard := none },
   { dst := some 18, op := Op.assign (Operand.tmp 67), type := 115, pos := "ref.go:348", after := #[{ on := 9, ground := Ground.data }, { on := 9, ground := Ground.chain }, { on := 0, ground := Ground.phase }, { on := 1, ground := Ground.phase }, { on := 2, ground := Ground.phase }, { on := 3, ground := Ground.phase }, { on := 4, ground := Ground.phase }, { on := 5, ground := Ground.phase }, { on := 6, ground := Ground.phase }, { on := 7, ground := Ground.phase }, { on := 8, ground := Ground.phase }, { on := 9, ground := Ground.phase }], guard := none }]
set_option maxRecDepth 100000 in
set_option maxHeartbeats 4000000 in
theorem getThing {Q : Exit → Act → World → Prop} {a0 : Act} {w5 : World} {bo l lo n lcap s xn xc : Nat} {xa tp : Option Addr} {ty key : ByteArray}
    (hsz : [58, 59, 60, 61, 62, 63, 64, 65, 66, 67, 18].all (fun d => decide (d < a0.tmps.size)) = true)
    (s0 : slots a0 0 = .slice (some ⟨l, lo, none⟩) n lcap) (s8 : slots a0 16 = .pointer (some ⟨bo, 0, none⟩)) (s2 : slots a0 3 = .string key) (hs : s < n) (c0 : w5.cell? ⟨bo, 0, none⟩ = some (.int .i64 (s : Int))) (c1 : w5.cell? ⟨bo, 1, none⟩ = some (.string ty)) (cx : w5.cell? ⟨l, lo + s * 3 + 2, none⟩ = some (.slice xa xn xc))
    (hcall : ∀ w1, Below w5.heap.size w5 w1 → Calls Tryz.prog 44 #[.slice xa xn xc, .string ty, .string key] w1 fun e w' => e = .returned (.pointer tp) ∧ Below w1.heap.size w1 w')
    (hQ : ∀ s w', Below w5.heap.size w5 w' → s 18 = .pointer tp → Q .normal (putAll a0 s [58, 59, 60, 61, 62, 63, 64, 65, 66, 67, 18]) w') :
    (Code.region 8 getThingOps.toArray true).wp Tryz.prog Q a0 w5 := by
  have hs1 : (s : Int) < (n : Int) := by omega
  have hs0 : (0 : Int) ≤ (s : Int) := by omega
  refine wp_region_as (by kernel_rfl) (by kernel_rfl) [58, 59, 60, 61, 62, 63, 64, 65, 66, 67, 18] (by kernel_rfl) hsz (by kernel_rfl) (fun _ => 99) (asV [] [.slice (some ⟨l, lo, none⟩) n lcap, .pointer (some ⟨bo, 0, none⟩), .int .i64 (s : Int), .pointer (some ⟨l, lo + s * 3, none⟩), .pointer (some ⟨l, lo + s * 3 + 2, none⟩), .slice xa xn xc, .pointer (some ⟨bo, 1, none⟩), .string ty, .string key, .pointer tp, .pointer tp]) (boxG w5 []) boxG.start ?_ ?_
  · intro Lz stz wz iz oz hGz hLz hcz hAz hFz hiz hlz haz
    have h99 : Lz 99 = false := by
      cases h : Lz 99 with
      | false => rfl
      | true => exact absurd (hLz 99 h) (by decide)
    obtain _ | iz := iz
    · obtain rfl := Option.some.inj hiz
      have e1 : stz 0 = .slice (some ⟨l, lo, none⟩) n lcap := (hFz 0 (by decide)).trans s0
      exact opStep_value (v := stz 0) (w' := wz) rfl ⟨hGz.step (Below.refl _ _) rfl _, e1, fun k _ _ _ h => h⟩
    obtain _ | iz := iz
    · obtain rfl := Option.some.inj hiz
      have e0 : stz 16 = .pointer (some ⟨bo, 0, none⟩) := (hFz 16 (by decide)).trans s8
      refine opStep_value (v := .pointer (some ⟨bo, 0, none⟩)) (w' := wz) ?_ ⟨hGz.step (Below.refl _ _) rfl _, rfl, fun k _ _ _ h => h⟩
      simp only [execOp, evalS, e0]
      go_simp
    obtain _ | iz := iz
    · obtain rfl := Option.some.inj hiz
      have e0 : stz 59 = .pointer (some ⟨bo, 0, none⟩) := hAz 1 (haz { on := 1, ground := .data } (by simp) rfl) h99
      have z0 := keptCell hGz.below c0
      refine opStep_value (v := .int .i64 (s : Int)) (w' := wz) ?_ ⟨hGz.step (Below.refl _ _) rfl _, rfl, fun k _ _ _ h => h⟩
      simp only [execOp, evalS, e0]
      go_simp
    obtain _ | iz := iz
    · obtain rfl := Option.some.inj hiz
      have e0 : stz 58 = .slice (some ⟨l, lo, none⟩) n lcap := hAz 0 (haz { on := 0, ground := .data } (by simp) rfl) h99
      have e1 : stz 60 = .int .i64 (s : Int) := hAz 2 (haz { on := 2, ground := .data } (by simp) rfl) h99
      refine opStep_value (v := .pointer (some ⟨l, lo + s * 3, none⟩)) (w' := wz) ?_ ⟨hGz.step (Below.refl _ _) rfl _, rfl, fun k _ _ _ h => h⟩
      simp only [execOp, evalS, e0, e1]
      go_simp
    obtain _ | iz := iz
    · obtain rfl := Option.some.inj hiz
      have e0 : stz 61 = .pointer (some ⟨l, lo + s * 3, none⟩) := hAz 3 (haz { on := 3, ground := .data } (by simp) rfl) h99
      refine opStep_value (v := .pointer (some ⟨l, lo + s * 3 + 2, none⟩)) (w' := wz) ?_ ⟨hGz.step (Below.refl _ _) rfl _, rfl, fun k _ _ _ h => h⟩
      simp only [execOp, evalS, e0]
      go_simp
    obtain _ | iz := iz
    · obtain rfl := Option.some.inj hiz
      have e0 : stz 62 = .pointer (some ⟨l, lo + s * 3 + 2, none⟩) := hAz 4 (haz { on := 4, ground := .data } (by simp) rfl) h99
      have z0 := keptCell hGz.below cx
      refine opStep_value (v := .slice xa xn xc) (w' := wz) ?_ ⟨hGz.step (Below.refl _ _) rfl _, rfl, fun k _ _ _ h => h⟩
      simp only [execOp, evalS, e0]
      go_simp
    obtain _ | iz := iz
    · obtain rfl := Option.some.inj hiz
      have e0 : stz 16 = .pointer (some ⟨bo, 0, none⟩) := (hFz 16 (by decide)).trans s8
      refine opStep_value (v := .pointer (some ⟨bo, 1, none⟩)) (w' := wz) ?_ ⟨hGz.step (Below.refl _ _) rfl _, rfl, fun k _ _ _ h => h⟩
      simp only [execOp, evalS, e0]
      go_simp
    obtain _ | iz := iz
    · obtain rfl := Option.some.inj hiz
      have e0 : stz 64 = .pointer (some ⟨bo, 1, none⟩) := hAz 6 (haz { on := 6, ground := .data } (by simp) rfl) h99
      have z0 := keptCell hGz.below c1
      refine opStep_value (v := .string ty) (w' := wz) ?_ ⟨hGz.step (Below.refl _ _) rfl _, rfl, fun k _ _ _ h => h⟩
      simp only [execOp, evalS, e0]
      go_simp
    obtain _ | iz := iz
    · obtain rfl := Option.some.inj hiz
      have e1 : stz 3 = .string key := (hFz 3 (by decide)).trans s2
      exact opStep_value (v := stz 3) (w' := wz) rfl ⟨hGz.step (Below.refl _ _) rfl _, e1, fun k _ _ _ h => h⟩
    obtain _ | iz := iz
    · obtain rfl := Option.some.inj hiz
      have e0 : stz 63 = .slice xa xn xc := hAz 5 (haz { on := 5, ground := .data } (by simp) rfl) h99
      have e1 : stz 65 = .string ty := hAz 7 (haz { on := 7, ground := .data } (by simp) rfl) h99
      have e2 : stz 66 = .string key := hAz 8 (haz { on := 8, ground := .data } (by simp) rfl) h99
      refine opStep_fn 44 #[.tmp 63, .tmp 65, .tmp 66] #[79, 9, 9] rfl (enters_of Tryz.func44 (by kernel_rfl) rfl) #[.slice xa xn xc, .string ty, .string key] (by simp [evalS, e0, e1, e2]) ((hcall wz hGz.below).mono fun e w' h => ?_)
      obtain ⟨rfl, hw'⟩ := h
      exact ⟨_, rfl, hGz.step hw' rfl _, rfl, fun k _ _ _ h => h⟩
    obtain _ | iz := iz
    · obtain rfl := Option.some.inj hiz
      have e0 : stz 67 = .pointer tp := hAz 9 (haz { on := 9, ground := .data } (by simp) rfl) h99
      refine opStep_value (v := .pointer tp) (w' := wz) ?_ ⟨hGz.step (Below.refl _ _) rfl _, rfl, fun k _ _ _ h => h⟩
      simp only [execOp, evalS, e0]
      go_simp
    · exfalso
      have hlen : iz + 11 < 11 := (List.getElem?_eq_some_iff.1 hiz).1
      omega
  · intro Lz stz wz hGz hLz hall hvals
    have h99 : Lz 99 = false := by
      cases h : Lz 99 with
      | false => rfl
      | true => exact absurd (hLz 99 h) (by decide)
    exact hQ stz wz hGz.below (hvals 10 (hall 10 (by decide)) h99)
/-- 'at := ref1.At(p.Type.Fields, k.Field)'. -/
def getAtOps : List Oper := [
  { dst := some 30, op := Op.move (Operand.tmp 2), type := 50, pos := "ref.go:345", after := #[], guard := none },
   { dst := some 31, op := Op.nilCheck (Operand.tmp 30), type := 0, pos := "ref.go:345", after := #[{ on := 0, ground := Ground.data }], guard := none },
   { dst := some 32, op := Op.fieldAddr 99 (Operand.tmp 31) 0, type := 0, pos := "ref.go:345", after := #[{ on := 1, ground := Ground.data }], guard := none },
   { dst := some 33, op := Op.fieldAddr 96 (Operand.tmp 32) 1, type := 0, pos := "ref.go:345", after := #[{ on := 2, ground := Ground.data }], guard := none },
   { dst := some 34, op := Op.load 94 (Operand.tmp 33), type := 94, pos := "ref.go:345", after := #[{ on := 3, ground := Ground.data }], guard := none },
   { dst := some 35, op := Op.fieldAddr 72 (Operand.tmp 13) 1, type := 0, pos := "ref.go:345", after := #[], guard := none },
   { dst := some 36, op := Op.load 9 (Operand.tmp 35), type := 9, pos := "ref.go:345", after := #[{ on := 5, ground := Ground.data }], guard := none },
   { dst := some 37, op := Op.call { callee := Callee.value (Operand.func 45), args := #[Operand.tmp 34, Operand.tmp 36], argTypes := #[94, 9] }, type := 3, pos := "ref.go:345", after := #[{ on := 4, ground := Ground.data }, { on := 6, ground := Ground.data }], guard := none },
   { dst := some 14, op := Op.assign (Operand.tmp 37), type := 3, pos := "ref.go:345", after := #[{ on := 7, ground := Ground.data }, { on := 7, ground := Ground.chain }, { on := 0, ground := Ground.phase }, { on := 1, ground := Ground.phase }, { on := 2, ground := Ground.phase }, { on := 3, ground := Ground.phase }, { on := 4, ground := Ground.phase }, { on := 5, ground := Ground.phase }, { on := 6, ground := Ground.phase }, { on := 7, ground := Ground.phase }], guard := none }]
set_option maxRecDepth 100000 in
set_option maxHeartbeats 4000000 in
theorem getAt {Q : Exit → Act → World → Prop} {a0 : Act} {w5 : World} {g o bk fn fc i : Nat} {fa : Option Addr} {pf : ByteArray}
    (hsz : [30, 31, 32, 33, 34, 35, 36, 37, 14].all (fun d => decide (d < a0.tmps.size)) = true)
    (s2 : slots a0 2 = .pointer (some ⟨g, o, none⟩)) (s13 : slots a0 13 = .pointer (some ⟨bk, 0, none⟩)) (ca : w5.cell? ⟨g, o + 1, none⟩ = some (.slice fa fn fc)) (cb : w5.cell? ⟨bk, 1, none⟩ = some (.string pf))
    (hcall : ∀ w1, Below w5.heap.size w5 w1 → Calls Tryz.prog 45 #[.slice fa fn fc, .string pf] w1 fun e w' => e = .returned (.int .i64 (i : Int)) ∧ Below w1.heap.size w1 w')
    (hQ : ∀ s w', Below w5.heap.size w5 w' → s 14 = .int .i64 (i : Int) → Q .normal (putAll a0 s [30, 31, 32, 33, 34, 35, 36, 37, 14]) w') :
    (Code.region 5 getAtOps.toArray true).wp Tryz.prog Q a0 w5 := by
  refine wp_region_as (by kernel_rfl) (by kernel_rfl) [30, 31, 32, 33, 34, 35, 36, 37, 14] (by kernel_rfl) hsz (by kernel_rfl) (fun _ => 99) (asV [] [.pointer (some ⟨g, o, none⟩), .pointer (some ⟨g, o, none⟩), .pointer (some ⟨g, o, none⟩), .pointer (some ⟨g, o + 1, none⟩), .slice fa fn fc, .pointer (some ⟨bk, 1, none⟩), .string pf, .int .i64 (i : Int), .int .i64 (i : Int)]) (boxG w5 []) boxG.start ?_ ?_
  · intro Lz stz wz iz oz hGz hLz hcz hAz hFz hiz hlz haz
    have h99 : Lz 99 = false := by
      cases h : Lz 99 with
      | false => rfl
      | true => exact absurd (hLz 99 h) (by decide)
    obtain _ | iz := iz
    · obtain rfl := Option.some.inj hiz
      have e1 : stz 2 = .pointer (some ⟨g, o, none⟩) := (hFz 2 (by decide)).trans s2
      exact opStep_value (v := stz 2) (w' := wz) rfl ⟨hGz.step (Below.refl _ _) rfl _, e1, fun k _ _ _ h => h⟩
    obtain _ | iz := iz
    · obtain rfl := Option.some.inj hiz
      have e0 : stz 30 = .pointer (some ⟨g, o, none⟩) := hAz 0 (haz { on := 0, ground := .data } (by simp) rfl) h99
      refine opStep_value (v := .pointer (some ⟨g, o, none⟩)) (w' := wz) ?_ ⟨hGz.step (Below.refl _ _) rfl _, rfl, fun k _ _ _ h => h⟩
      simp only [execOp, evalS, e0]
      go_simp
    obtain _ | iz := iz
    · obtain rfl := Option.some.inj hiz
      have e0 : stz 31 = .pointer (some ⟨g, o, none⟩) := hAz 1 (haz { on := 1, ground := .data } (by simp) rfl) h99
      refine opStep_value (v := .pointer (some ⟨g, o, none⟩)) (w' := wz) ?_ ⟨hGz.step (Below.refl _ _) rfl _, rfl, fun k _ _ _ h => h⟩
      simp only [execOp, evalS, e0]
      go_simp
    obtain _ | iz := iz
    · obtain rfl := Option.some.inj hiz
      have e0 : stz 32 = .pointer (some ⟨g, o, none⟩) := hAz 2 (haz { on := 2, ground := .data } (by simp) rfl) h99
      refine opStep_value (v := .pointer (some ⟨g, o + 1, none⟩)) (w' := wz) ?_ ⟨hGz.step (Below.refl _ _) rfl _, rfl, fun k _ _ _ h => h⟩
      simp only [execOp, evalS, e0]
      go_simp
    obtain _ | iz := iz
    · obtain rfl := Option.some.inj hiz
      have e0 : stz 33 = .pointer (some ⟨g, o + 1, none⟩) := hAz 3 (haz { on := 3, ground := .data } (by simp) rfl) h99
      have z0 := keptCell hGz.below ca
      refine opStep_value (v := .slice fa fn fc) (w' := wz) ?_ ⟨hGz.step (Below.refl _ _) rfl _, rfl, fun k _ _ _ h => h⟩
      simp only [execOp, evalS, e0]
      go_simp
    obtain _ | iz := iz
    · obtain rfl := Option.some.inj hiz
      have e0 : stz 13 = .pointer (some ⟨bk, 0, none⟩) := (hFz 13 (by decide)).trans s13
      refine opStep_value (v := .pointer (some ⟨bk, 1, none⟩)) (w' := wz) ?_ ⟨hGz.step (Below.refl _ _) rfl _, rfl, fun k _ _ _ h => h⟩
      simp only [execOp, evalS, e0]
      go_simp
    obtain _ | iz := iz
    · obtain rfl := Option.some.inj hiz
      have e0 : stz 35 = .pointer (some ⟨bk, 1, none⟩) := hAz 5 (haz { on := 5, ground := .data } (by simp) rfl) h99
      have z0 := keptCell hGz.below cb
      refine opStep_value (v := .string pf) (w' := wz) ?_ ⟨hGz.step (Below.refl _ _) rfl _, rfl, fun k _ _ _ h => h⟩
      simp only [execOp, evalS, e0]
      go_simp
    obtain _ | iz := iz
    · obtain rfl := Option.some.inj hiz
      have e0 : stz 34 = .slice fa fn fc := hAz 4 (haz { on := 4, ground := .data } (by simp) rfl) h99
      have e1 : stz 36 = .string pf := hAz 6 (haz { on := 6, ground := .data } (by simp) rfl) h99
      refine opStep_fn 45 #[.tmp 34, .tmp 36] #[94, 9] rfl (enters_of Tryz.func45 (by kernel_rfl) rfl) #[.slice fa fn fc, .string pf] (by simp [evalS, e0, e1]) ((hcall wz hGz.below).mono fun e w' h => ?_)
      obtain ⟨rfl, hw'⟩ := h
      exact ⟨_, rfl, hGz.step hw' rfl _, rfl, fun k _ _ _ h => h⟩
    obtain _ | iz := iz
    · obtain rfl := Option.some.inj hiz
      have e0 : stz 37 = .int .i64 (i : Int) := hAz 7 (haz { on := 7, ground := .data } (by simp) rfl) h99
      refine opStep_value (v := .int .i64 (i : Int)) (w' := wz) ?_ ⟨hGz.step (Below.refl _ _) rfl _, rfl, fun k _ _ _ h => h⟩
      simp only [execOp, evalS, e0]
      go_simp
    · exfalso
      have hlen : iz + 9 < 9 := (List.getElem?_eq_some_iff.1 hiz).1
      omega
  · intro Lz stz wz hGz hLz hall hvals
    have h99 : Lz 99 = false := by
      cases h : Lz 99 with
      | false => rfl
      | true => exact absurd (hLz 99 h) (by decide)
    exact hQ stz wz hGz.below (hvals 8 (hall 8 (by decide)) h99)
/-- 'f, o := p.Type.Fields[at], p.Owners[at]'. -/
def getTwoOps : List Oper := [
  { dst := some 38, op := Op.move (Operand.tmp 2), type := 50, pos := "ref.go:346", after := #[], guard := none },
   { dst := some 39, op := Op.nilCheck (Operand.tmp 38), type := 0, pos := "ref.go:346", after := #[{ on := 0, ground := Ground.data }], guard := none },
   { dst := some 40, op := Op.fieldAddr 99 (Operand.tmp 39) 0, type := 0, pos := "ref.go:346", after := #[{ on := 1, ground := Ground.data }], guard := none },
   { dst := some 41, op := Op.fieldAddr 96 (Operand.tmp 40) 1, type := 0, pos := "ref.go:346", after := #[{ on := 2, ground := Ground.data }], guard := none },
   { dst := some 42, op := Op.load 94 (Operand.tmp 41), type := 94, pos := "ref.go:346", after := #[{ on := 3, ground := Ground.data }], guard := none },
   { dst := some 43, op := Op.move (Operand.tmp 14), type := 3, pos := "ref.go:346", after := #[], guard := none },
   { dst := some 44, op := Op.indexAddr 94 (Operand.tmp 42) (Operand.tmp 43), type := 0, pos := "ref.go:346", after := #[{ on := 4, ground := Ground.data }, { on := 5, ground := Ground.data }], guard := none },
   { dst := some 45, op := Op.load 113 (Operand.tmp 44), type := 113, pos := "ref.go:346", after := #[{ on := 6, ground := Ground.data }], guard := none },
   { dst := some 46, op := Op.move (Operand.tmp 2), type := 50, pos := "ref.go:346", after := #[{ on := 17, ground := Ground.gcOnly Departure.lateStores }], guard := none },
   { dst := some 47, op := Op.nilCheck (Operand.tmp 46), type := 0, pos := "ref.go:346", after := #[{ on := 8, ground := Ground.data }, { on := 17, ground := Ground.gcOnly Departure.lateStores }], guard := none },
   { dst := some 48, op := Op.fieldAddr 99 (Operand.tmp 47) 1, type := 0, pos := "ref.go:346", after := #[{ on := 9, ground := Ground.data }, { on := 17, ground := Ground.gcOnly Departure.lateStores }], guard := none },
   { dst := some 49, op := Op.load 97 (Operand.tmp 48), type := 97, pos := "ref.go:346", after := #[{ on := 10, ground := Ground.data }, { on := 17, ground := Ground.gcOnly Departure.lateStores }], guard := none },
   { dst := some 50, op := Op.move (Operand.tmp 14), type := 3, pos := "ref.go:346", after := #[{ on := 17, ground := Ground.gcOnly Departure.lateStores }], guard := none },
   { dst := some 51, op := Op.indexAddr 97 (Operand.tmp 49) (Operand.tmp 50), type := 0, pos := "ref.go:346", after := #[{ on := 11, ground := Ground.data }, { on := 12, ground := Ground.data }, { on := 17, ground := Ground.gcOnly Departure.lateStores }], guard := none },
   { dst := some 52, op := Op.load 92 (Operand.tmp 51), type := 92, pos := "ref.go:346", after := #[{ on := 13, ground := Ground.data }, { on := 17, ground := Ground.gcOnly Departure.lateStores }], guard := none },
   { dst := some 15, op := Op.alloc 113, type := 0, pos := "ref.go:346", after := #[], guard := none },
   { dst := some 16, op := Op.alloc 92, type := 0, pos := "ref.go:346", after := #[], guard := none },
   { dst := none, op := Op.store 113 (Operand.tmp 15) (Operand.tmp 45), type := 0, pos := "ref.go:346", after := #[{ on := 15, ground := Ground.data }, { on := 7, ground := Ground.data }, { on := 0, ground := Ground.phase }, { on := 1, ground := Ground.phase }, { on := 2, ground := Ground.phase }, { on := 3, ground := Ground.phase }, { on := 4, ground := Ground.phase }, { on := 5, ground := Ground.phase }, { on := 6, ground := Ground.phase }, { on := 7, ground := Ground.phase }, { on := 8, ground := Ground.textOnly Departure.lateStores }, { on := 9, ground := Ground.textOnly Departure.lateStores }, { on := 10, ground := Ground.textOnly Departure.lateStores }, { on := 11, ground := Ground.textOnly Departure.lateStores }, { on := 12, ground := Ground.textOnly Departure.lateStores }, { on := 13, ground := Ground.textOnly Departure.lateStores }, { on := 14, ground := Ground.textOnly Departure.lateStores }, { on := 15, ground := Ground.phase }, { on := 16, ground := Ground.phase }], guard := none },
   { dst := none, op := Op.store 92 (Operand.tmp 16) (Operand.tmp 52), type := 0, pos := "ref.go:346", after := #[{ on := 16, ground := Ground.data }, { on := 14, ground := Ground.data }, { on := 17, ground := Ground.chain }, { on := 0, ground := Ground.phase }, { on := 1, ground := Ground.phase }, { on := 2, ground := Ground.phase }, { on := 3, ground := Ground.phase }, { on := 4, ground := Ground.phase }, { on := 5, ground := Ground.phase }, { on := 6, ground := Ground.phase }, { on := 7, ground := Ground.phase }, { on := 8, ground := Ground.phase }, { on := 9, ground := Ground.phase }, { on := 10, ground := Ground.phase }, { on := 11, ground := Ground.phase }, { on := 12, ground := Ground.phase }, { on := 13, ground := Ground.phase }, { on := 14, ground := Ground.phase }, { on := 15, ground := Ground.phase }, { on := 16, ground := Ground.phase }, { on := 17, ground := Ground.phase }], guard := none }]
set_option maxRecDepth 100000 in
set_option maxHeartbeats 4000000 in
theorem getTwo {Q : Exit → Act → World → Prop} {a0 : Act} {w5 : World} {g o f fo fn fc f2 fo2 on oc i : Nat} {fnm fty oty ofl : ByteArray} {fk sv : Int}
    (hsz : [38, 39, 40, 41, 42, 43, 44, 45, 46, 47, 48, 49, 50, 51, 52, 15, 16].all (fun d => decide (d < a0.tmps.size)) = true)
    (s2 : slots a0 2 = .pointer (some ⟨g, o, none⟩)) (s14 : slots a0 14 = .int .i64 (i : Int)) (hi : i < fn) (hi2 : i < on) (ca : w5.cell? ⟨g, o + 1, none⟩ = some (.slice (some ⟨f, fo, none⟩) fn fc)) (cb : w5.cell? ⟨g, o + 2, none⟩ = some (.slice (some ⟨f2, fo2, none⟩) on oc))
    (c0 : w5.cell? ⟨f, fo + i * 3, none⟩ = some (.string fnm)) (c1 : w5.cell? ⟨f, fo + i * 3 + 1, none⟩ = some (.int .i64 fk)) (c2 : w5.cell? ⟨f, fo + i * 3 + 2, none⟩ = some (.string fty))
    (d0 : w5.cell? ⟨f2, fo2 + i * 3, none⟩ = some (.int .i64 sv)) (d1 : w5.cell? ⟨f2, fo2 + i * 3 + 1, none⟩ = some (.string oty)) (d2 : w5.cell? ⟨f2, fo2 + i * 3 + 2, none⟩ = some (.string ofl))
    (hQ : ∀ s w' b0 b1, Below w5.heap.size w5 w' → s 15 = .pointer (some ⟨b0, 0, none⟩) → w5.heap.size ≤ b0 → w'.heap[b0]? = some (.cells #[.string fnm, .int .i64 fk, .string fty] 113 (0, 0)) → s 16 = .pointer (some ⟨b1, 0, none⟩) → w5.heap.size ≤ b1 → w'.heap[b1]? = some (.cells #[.int .i64 sv, .string oty, .string ofl] 92 (0, 0)) → Q .normal (putAll a0 s [38, 39, 40, 41, 42, 43, 44, 45, 46, 47, 48, 49, 50, 51, 52, 15, 16]) w') :
    (Code.region 6 getTwoOps.toArray true).wp Tryz.prog Q a0 w5 := by
  have hi1 : (i : Int) < (fn : Int) := by omega
  have hi3 : (i : Int) < (on : Int) := by omega
  have hi0 : (0 : Int) ≤ (i : Int) := by omega
  refine wp_region_as (by kernel_rfl) (by kernel_rfl) [38, 39, 40, 41, 42, 43, 44, 45, 46, 47, 48, 49, 50, 51, 52, 15, 16] (by kernel_rfl) hsz (by kernel_rfl) (fun _ => 99) (asV [15, 16, 17, 18] [.pointer (some ⟨g, o, none⟩), .pointer (some ⟨g, o, none⟩), .pointer (some ⟨g, o, none⟩), .pointer (some ⟨g, o + 1, none⟩), .slice (some ⟨f, fo, none⟩) fn fc, .int .i64 (i : Int), .pointer (some ⟨f, fo + i * 3, none⟩), .agg #[.string fnm, .int .i64 fk, .string fty], .pointer (some ⟨g, o, none⟩), .pointer (some ⟨g, o, none⟩), .pointer (some ⟨g, o + 2, none⟩), .slice (some ⟨f2, fo2, none⟩) on oc, .int .i64 (i : Int), .pointer (some ⟨f2, fo2 + i * 3, none⟩), .agg #[.int .i64 sv, .string oty, .string ofl], undef, undef, undef, undef]) (boxG w5 [⟨15, 17, 15, #[.string ⟨#[]⟩, .int .i64 0, .string ⟨#[]⟩], #[.string fnm, .int .i64 fk, .string fty], 113⟩, ⟨16, 18, 16, #[.int .i64 0, .string ⟨#[]⟩, .string ⟨#[]⟩], #[.int .i64 sv, .string oty, .string ofl], 92⟩]) boxG.start ?_ ?_
  · intro Lz stz wz iz oz hGz hLz hcz hAz hFz hiz hlz haz
    have h99 : Lz 99 = false := by
      cases h : Lz 99 with
      | false => rfl
      | true => exact absurd (hLz 99 h) (by decide)
    obtain _ | iz := iz
    · obtain rfl := Option.some.inj hiz
      have e1 : stz 2 = .pointer (some ⟨g, o, none⟩) := (hFz 2 (by decide)).trans s2
      exact opStep_value (v := stz 2) (w' := wz) rfl ⟨hGz.step (Below.refl _ _) rfl _, e1, fun k _ _ _ h => h⟩
    obtain _ | iz := iz
    · obtain rfl := Option.some.inj hiz
      have e0 : stz 38 = .pointer (some ⟨g, o, none⟩) := hAz 0 (haz { on := 0, ground := .data } (by simp) rfl) h99
      refine opStep_value (v := .pointer (some ⟨g, o, none⟩)) (w' := wz) ?_ ⟨hGz.step (Below.refl _ _) rfl _, rfl, fun k _ _ _ h => h⟩
      simp only [execOp, evalS, e0]
      go_simp
    obtain _ | iz := iz
    · obtain rfl := Option.some.inj hiz
      have e0 : stz 39 = .pointer (some ⟨g, o, none⟩) := hAz 1 (haz { on := 1, ground := .data } (by simp) rfl) h99
      refine opStep_value (v := .pointer (some ⟨g, o, none⟩)) (w' := wz) ?_ ⟨hGz.step (Below.refl _ _) rfl _, rfl, fun k _ _ _ h => h⟩
      simp only [execOp, evalS, e0]
      go_simp
    obtain _ | iz := iz
    · obtain rfl := Option.some.inj hiz
      have e0 : stz 40 = .pointer (some ⟨g, o, none⟩) := hAz 2 (haz { on := 2, ground := .data } (by simp) rfl) h99
      refine opStep_value (v := .pointer (some ⟨g, o + 1, none⟩)) (w' := wz) ?_ ⟨hGz.step (Below.refl _ _) rfl _, rfl, fun k _ _ _ h => h⟩
      simp only [execOp, evalS, e0]
      go_simp
    obtain _ | iz := iz
    · obtain rfl := Option.some.inj hiz
      have e0 : stz 41 = .pointer (some ⟨g, o + 1, none⟩) := hAz 3 (haz { on := 3, ground := .data } (by simp) rfl) h99
      have z0 := keptCell hGz.below ca
      refine opStep_value (v := .slice (some ⟨f, fo, none⟩) fn fc) (w' := wz) ?_ ⟨hGz.step (Below.refl _ _) rfl _, rfl, fun k _ _ _ h => h⟩
      simp only [execOp, evalS, e0]
      go_simp
    obtain _ | iz := iz
    · obtain rfl := Option.some.inj hiz
      have e1 : stz 14 = .int .i64 (i : Int) := (hFz 14 (by decide)).trans s14
      exact opStep_value (v := stz 14) (w' := wz) rfl ⟨hGz.step (Below.refl _ _) rfl _, e1, fun k _ _ _ h => h⟩
    obtain _ | iz := iz
    · obtain rfl := Option.some.inj hiz
      have e0 : stz 42 = .slice (some ⟨f, fo, none⟩) fn fc := hAz 4 (haz { on := 4, ground := .data } (by simp) rfl) h99
      have e1 : stz 43 = .int .i64 (i : Int) := hAz 5 (haz { on := 5, ground := .data } (by simp) rfl) h99
      refine opStep_value (v := .pointer (some ⟨f, fo + i * 3, none⟩)) (w' := wz) ?_ ⟨hGz.step (Below.refl _ _) rfl _, rfl, fun k _ _ _ h => h⟩
      simp only [execOp, evalS, e0, e1]
      go_simp
    obtain _ | iz := iz
    · obtain rfl := Option.some.inj hiz
      have e0 : stz 44 = .pointer (some ⟨f, fo + i * 3, none⟩) := hAz 6 (haz { on := 6, ground := .data } (by simp) rfl) h99
      have z0 := keptCell hGz.below c0
      have z1 := keptCell hGz.below c1
      have z2 := keptCell hGz.below c2
      refine opStep_value (v := .agg #[.string fnm, .int .i64 fk, .string fty]) (w' := wz) ?_ ⟨hGz.step (Below.refl _ _) rfl _, rfl, fun k _ _ _ h => h⟩
      simp only [execOp, evalS, e0]
      go_simp
    obtain _ | iz := iz
    · obtain rfl := Option.some.inj hiz
      have e1 : stz 2 = .pointer (some ⟨g, o, none⟩) := (hFz 2 (by decide)).trans s2
      exact opStep_value (v := stz 2) (w' := wz) rfl ⟨hGz.step (Below.refl _ _) rfl _, e1, fun k _ _ _ h => h⟩
    obtain _ | iz := iz
    · obtain rfl := Option.some.inj hiz
      have e0 : stz 46 = .pointer (some ⟨g, o, none⟩) := hAz 8 (haz { on := 8, ground := .data } (by simp) rfl) h99
      refine opStep_value (v := .pointer (some ⟨g, o, none⟩)) (w' := wz) ?_ ⟨hGz.step (Below.refl _ _) rfl _, rfl, fun k _ _ _ h => h⟩
      simp only [execOp, evalS, e0]
      go_simp
    obtain _ | iz := iz
    · obtain rfl := Option.some.inj hiz
      have e0 : stz 47 = .pointer (some ⟨g, o, none⟩) := hAz 9 (haz { on := 9, ground := .data } (by simp) rfl) h99
      refine opStep_value (v := .pointer (some ⟨g, o + 2, none⟩)) (w' := wz) ?_ ⟨hGz.step (Below.refl _ _) rfl _, rfl, fun k _ _ _ h => h⟩
      simp only [execOp, evalS, e0]
      go_simp
    obtain _ | iz := iz
    · obtain rfl := Option.some.inj hiz
      have e0 : stz 48 = .pointer (some ⟨g, o + 2, none⟩) := hAz 10 (haz { on := 10, ground := .data } (by simp) rfl) h99
      have z0 := keptCell hGz.below cb
      refine opStep_value (v := .slice (some ⟨f2, fo2, none⟩) on oc) (w' := wz) ?_ ⟨hGz.step (Below.refl _ _) rfl _, rfl, fun k _ _ _ h => h⟩
      simp only [execOp, evalS, e0]
      go_simp
    obtain _ | iz := iz
    · obtain rfl := Option.some.inj hiz
      have e1 : stz 14 = .int .i64 (i : Int) := (hFz 14 (by decide)).trans s14
      exact opStep_value (v := stz 14) (w' := wz) rfl ⟨hGz.step (Below.refl _ _) rfl _, e1, fun k _ _ _ h => h⟩
    obtain _ | iz := iz
    · obtain rfl := Option.some.inj hiz
      have e0 : stz 49 = .slice (some ⟨f2, fo2, none⟩) on oc := hAz 11 (haz { on := 11, ground := .data } (by simp) rfl) h99
      have e1 : stz 50 = .int .i64 (i : Int) := hAz 12 (haz { on := 12, ground := .data } (by simp) rfl) h99
      refine opStep_value (v := .pointer (some ⟨f2, fo2 + i * 3, none⟩)) (w' := wz) ?_ ⟨hGz.step (Below.refl _ _) rfl _, rfl, fun k _ _ _ h => h⟩
      simp only [execOp, evalS, e0, e1]
      go_simp
    obtain _ | iz := iz
    · obtain rfl := Option.some.inj hiz
      have e0 : stz 51 = .pointer (some ⟨f2, fo2 + i * 3, none⟩) := hAz 13 (haz { on := 13, ground := .data } (by simp) rfl) h99
      have z0 := keptCell hGz.below d0
      have z1 := keptCell hGz.below d1
      have z2 := keptCell hGz.below d2
      refine opStep_value (v := .agg #[.int .i64 sv, .string oty, .string ofl]) (w' := wz) ?_ ⟨hGz.step (Below.refl _ _) rfl _, rfl, fun k _ _ _ h => h⟩
      simp only [execOp, evalS, e0]
      go_simp
    obtain _ | iz := iz
    · obtain rfl := Option.some.inj hiz
      have hs : Lz 17 = false := by
        cases h : Lz 17 with
        | false => rfl
        | true => rw [hcz 17 _ h rfl { on := 15, ground := .data } (by simp) rfl] at hlz; cases hlz
      refine opStep_value (v := .pointer (some ⟨wz.heap.size, 0, none⟩)) (w' := wz.alloc (.cells #[.string ⟨#[]⟩, .int .i64 0, .string ⟨#[]⟩] 113)) ?_ ⟨hGz.alloc (q := ⟨15, 17, 15, #[.string ⟨#[]⟩, .int .i64 0, .string ⟨#[]⟩], #[.string fnm, .int .i64 fk, .string fty], 113⟩) (by intro p hp; simp only [List.mem_cons, List.not_mem_nil, or_false] at hp; rcases hp with rfl | rfl <;> intro h <;> first | rfl | exact absurd h (Nat.ne_of_beq_eq_false rfl)) rfl (Nat.ne_of_beq_eq_false rfl) hs, trivial, fun k _ _ _ h => h⟩
      simp only [execOp]
      go_simp
    obtain _ | iz := iz
    · obtain rfl := Option.some.inj hiz
      have hs : Lz 18 = false := by
        cases h : Lz 18 with
        | false => rfl
        | true => rw [hcz 18 _ h rfl { on := 16, ground := .data } (by simp) rfl] at hlz; cases hlz
      refine opStep_value (v := .pointer (some ⟨wz.heap.size, 0, none⟩)) (w' := wz.alloc (.cells #[.int .i64 0, .string ⟨#[]⟩, .string ⟨#[]⟩] 92)) ?_ ⟨hGz.alloc (q := ⟨16, 18, 16, #[.int .i64 0, .string ⟨#[]⟩, .string ⟨#[]⟩], #[.int .i64 sv, .string oty, .string ofl], 92⟩) (by intro p hp; simp only [List.mem_cons, List.not_mem_nil, or_false] at hp; rcases hp with rfl | rfl <;> intro h <;> first | rfl | exact absurd h (Nat.ne_of_beq_eq_false rfl)) rfl (Nat.ne_of_beq_eq_false rfl) hs, trivial, fun k _ _ _ h => h⟩
      simp only [execOp]
      go_simp
    obtain _ | iz := iz
    · obtain rfl := Option.some.inj hiz
      have hb := haz { on := 15, ground := .data } (by simp) rfl
      obtain ⟨b, q1, q2, q3⟩ := hGz.box ⟨15, 17, 15, #[.string ⟨#[]⟩, .int .i64 0, .string ⟨#[]⟩], #[.string fnm, .int .i64 fk, .string fty], 113⟩ (by simp) hb
      rw [hlz] at q3
      simp only [Bool.false_eq_true, if_false] at q3
      replace q1 : stz 15 = _ := q1
      have e2 : stz 45 = .agg #[.string fnm, .int .i64 fk, .string fty] := hAz 7 (haz { on := 7, ground := .data } (by simp) rfl) h99
      obtain ⟨x0, x1, x2⟩ : wz.cell? ⟨b, 0, none⟩ = some (.string ⟨#[]⟩) ∧ wz.cell? ⟨b, 1, none⟩ = some (.int .i64 0) ∧ wz.cell? ⟨b, 2, none⟩ = some (.string ⟨#[]⟩) := by simp [World.cell?, q3]
      obtain ⟨y0, y1, y2⟩ : wz.frozen? ⟨b, 0, none⟩ = false ∧ wz.frozen? ⟨b, 1, none⟩ = false ∧ wz.frozen? ⟨b, 2, none⟩ = false := by simp [World.frozen?, q3]
      have g0 := heap_setCell_same _ b 0 _ 113 (.string fnm) q3
      have g1 := heap_setCell_same _ b 1 _ 113 (.int .i64 fk) g0
      have g2 := heap_setCell_same _ b 2 _ 113 (.string fty) g1
      refine opStep_skip (w' := ((wz.setCell ⟨b, 0, none⟩ (.string fnm)).setCell ⟨b, 1, none⟩ (.int .i64 fk)).setCell ⟨b, 2, none⟩ (.string fty)) ?_ ⟨hGz.store (q := ⟨15, 17, 15, #[.string ⟨#[]⟩, .int .i64 0, .string ⟨#[]⟩], #[.string fnm, .int .i64 fk, .string fty], 113⟩) (by intro p hp; simp only [List.mem_cons, List.not_mem_nil, or_false] at hp; rcases hp with rfl | rfl <;> intro h <;> first | rfl | exact absurd h (Nat.ne_of_beq_eq_false rfl)) rfl (by simp) (Nat.ne_of_beq_eq_false rfl) hb q1 q2 (by rw [g2]; rfl) ((((OnlyB.refl _ _).set 0 _).set 1 _).set 2 _) _, trivial, fun k _ _ _ h => h⟩
      simp only [execOp, evalS, q1, e2]
      go_simp
    obtain _ | iz := iz
    · obtain rfl := Option.some.inj hiz
      have hb := haz { on := 16, ground := .data } (by simp) rfl
      obtain ⟨b, q1, q2, q3⟩ := hGz.box ⟨16, 18, 16, #[.int .i64 0, .string ⟨#[]⟩, .string ⟨#[]⟩], #[.int .i64 sv, .string oty, .string ofl], 92⟩ (by simp) hb
      rw [hlz] at q3
      simp only [Bool.false_eq_true, if_false] at q3
      replace q1 : stz 16 = _ := q1
      have e2 : stz 52 = .agg #[.int .i64 sv, .string oty, .string ofl] := hAz 14 (haz { on := 14, ground := .data } (by simp) rfl) h99
      obtain ⟨x0, x1, x2⟩ : wz.cell? ⟨b, 0, none⟩ = some (.int .i64 0) ∧ wz.cell? ⟨b, 1, none⟩ = some (.string ⟨#[]⟩) ∧ wz.cell? ⟨b, 2, none⟩ = some (.string ⟨#[]⟩) := by simp [World.cell?, q3]
      obtain ⟨y0, y1, y2⟩ : wz.frozen? ⟨b, 0, none⟩ = false ∧ wz.frozen? ⟨b, 1, none⟩ = false ∧ wz.frozen? ⟨b, 2, none⟩ = false := by simp [World.frozen?, q3]
      have g0 := heap_setCell_same _ b 0 _ 92 (.int .i64 sv) q3
      have g1 := heap_setCell_same _ b 1 _ 92 (.string oty) g0
      have g2 := heap_setCell_same _ b 2 _ 92 (.string ofl) g1
      refine opStep_skip (w' := ((wz.setCell ⟨b, 0, none⟩ (.int .i64 sv)).setCell ⟨b, 1, none⟩ (.string oty)).setCell ⟨b, 2, none⟩ (.string ofl)) ?_ ⟨hGz.store (q := ⟨16, 18, 16, #[.int .i64 0, .string ⟨#[]⟩, .string ⟨#[]⟩], #[.int .i64 sv, .string oty, .string ofl], 92⟩) (by intro p hp; simp only [List.mem_cons, List.not_mem_nil, or_false] at hp; rcases hp with rfl | rfl <;> intro h <;> first | rfl | exact absurd h (Nat.ne_of_beq_eq_false rfl)) rfl (by simp) (Nat.ne_of_beq_eq_false rfl) hb q1 q2 (by rw [g2]; rfl) ((((OnlyB.refl _ _).set 0 _).set 1 _).set 2 _) _, trivial, fun k _ _ _ h => h⟩
      simp only [execOp, evalS, q1, e2]
      go_simp
    · exfalso
      have hlen : iz + 19 < 19 := (List.getElem?_eq_some_iff.1 hiz).1
      omega
  · intro Lz stz wz hGz _ hall _
    obtain ⟨b0, q0, r0, t0⟩ := hGz.box ⟨15, 17, 15, #[.string ⟨#[]⟩, .int .i64 0, .string ⟨#[]⟩], #[.string fnm, .int .i64 fk, .string fty], 113⟩ (by simp) (hall 15 (by decide))
    rw [show Lz 17 = true from hall 17 (by decide)] at t0
    obtain ⟨b1, q1, r1, t1⟩ := hGz.box ⟨16, 18, 16, #[.int .i64 0, .string ⟨#[]⟩, .string ⟨#[]⟩], #[.int .i64 sv, .string oty, .string ofl], 92⟩ (by simp) (hall 16 (by decide))
    rw [show Lz 18 = true from hall 18 (by decide)] at t1
    exact hQ stz wz b0 b1 hGz.below q0 r0 t0 q1 r1 t1
/-- Get: a new one, its name and kind alone. -/
def getNewOps : List Oper := [
  { dst := some 53, op := Op.load 72 (Operand.tmp 13), type := 72, pos := "ref.go:347", after := #[], guard := none },
   { dst := some 54, op := Op.call { callee := Callee.value (Operand.func 46), args := #[Operand.tmp 53], argTypes := #[72] }, type := 9, pos := "ref.go:347", after := #[{ on := 0, ground := Ground.data }], guard := none },
   { dst := some 55, op := Op.fieldAddr 113 (Operand.tmp 15) 1, type := 0, pos := "ref.go:347", after := #[], guard := none },
   { dst := some 56, op := Op.load 3 (Operand.tmp 55), type := 3, pos := "ref.go:347", after := #[{ on := 2, ground := Ground.data }], guard := none },
   { dst := some 57, op := Op.build 56 #[(0, Operand.tmp 54), (1, Operand.tmp 56)], type := 56, pos := "ref.go:347", after := #[{ on := 1, ground := Ground.data }, { on := 3, ground := Ground.data }], guard := none },
   { dst := some 17, op := Op.alloc 56, type := 0, pos := "ref.go:347", after := #[], guard := none },
   { dst := none, op := Op.store 56 (Operand.tmp 17) (Operand.tmp 57), type := 0, pos := "ref.go:347", after := #[{ on := 5, ground := Ground.data }, { on := 4, ground := Ground.data }, { on := 1, ground := Ground.chain }, { on := 0, ground := Ground.phase }, { on := 1, ground := Ground.phase }, { on := 2, ground := Ground.phase }, { on := 3, ground := Ground.phase }, { on := 4, ground := Ground.phase }, { on := 5, ground := Ground.phase }], guard := none }]
set_option maxRecDepth 100000 in
set_option maxHeartbeats 4000000 in
theorem getNew {Q : Exit → Act → World → Prop} {a0 : Act} {w5 : World} {bp bf pn pc : Nat} {A : Option Addr} {nk pf nm : ByteArray} {kd : Int}
    (hsz : [53, 54, 55, 56, 57, 17].all (fun d => decide (d < a0.tmps.size)) = true)
    (s1 : slots a0 13 = .pointer (some ⟨bp, 0, none⟩)) (s2 : slots a0 15 = .pointer (some ⟨bf, 0, none⟩)) (c0 : w5.cell? ⟨bp, 0, none⟩ = some (.string nk)) (c1 : w5.cell? ⟨bp, 1, none⟩ = some (.string pf)) (c2 : w5.cell? ⟨bp, 2, none⟩ = some (.slice A pn pc)) (cf : w5.cell? ⟨bf, 1, none⟩ = some (.int .i64 kd))
    (hcall : ∀ w1, Below w5.heap.size w5 w1 → Calls Tryz.prog 46 #[.agg #[.string nk, .string pf, .slice A pn pc]] w1 fun e w' => e = .returned (.string nm) ∧ Below w1.heap.size w1 w')
    (hQ : ∀ s w' b0, Below w5.heap.size w5 w' → s 17 = .pointer (some ⟨b0, 0, none⟩) → w5.heap.size ≤ b0 → w'.heap[b0]? = some (.cells #[.string nm, .int .i64 kd, .bool false, .string ⟨#[]⟩, .slice none 0 0, .slice none 0 0] 56 (0, 0)) → Q .normal (putAll a0 s [53, 54, 55, 56, 57, 17]) w') :
    (Code.region 7 getNewOps.toArray true).wp Tryz.prog Q a0 w5 := by
  refine wp_region_as (by kernel_rfl) (by kernel_rfl) [53, 54, 55, 56, 57, 17] (by kernel_rfl) hsz (by kernel_rfl) (fun _ => 99) (asV [5, 6] [.agg #[.string nk, .string pf, .slice A pn pc], .string nm, .pointer (some ⟨bf, 1, none⟩), .int .i64 kd, .agg #[.string nm, .int .i64 kd, .bool false, .string ⟨#[]⟩, .slice none 0 0, .slice none 0 0], undef, undef]) (boxG w5 [⟨5, 6, 17, #[.string ⟨#[]⟩, .int .i64 0, .bool false, .string ⟨#[]⟩, .slice none 0 0, .slice none 0 0], #[.string nm, .int .i64 kd, .bool false, .string ⟨#[]⟩, .slice none 0 0, .slice none 0 0], 56⟩]) boxG.start ?_ ?_
  · intro Lz stz wz iz oz hGz hLz hcz hAz hFz hiz hlz haz
    have h99 : Lz 99 = false := by
      cases h : Lz 99 with
      | false => rfl
      | true => exact absurd (hLz 99 h) (by decide)
    obtain _ | iz := iz
    · obtain rfl := Option.some.inj hiz
      have e0 : stz 13 = .pointer (some ⟨bp, 0, none⟩) := (hFz 13 (by decide)).trans s1
      have z0 := keptCell hGz.below c0
      have z1 := keptCell hGz.below c1
      have z2 := keptCell hGz.below c2
      refine opStep_value (v := .agg #[.string nk, .string pf, .slice A pn pc]) (w' := wz) ?_ ⟨hGz.step (Below.refl _ _) rfl _, rfl, fun k _ _ _ h => h⟩
      simp only [execOp, evalS, e0]
      go_simp
    obtain _ | iz := iz
    · obtain rfl := Option.some.inj hiz
      have e0 : stz 53 = .agg #[.string nk, .string pf, .slice A pn pc] := hAz 0 (haz { on := 0, ground := .data } (by simp) rfl) h99
      refine opStep_fn 46 #[.tmp 53] #[72] rfl (enters_of Tryz.func46 (by kernel_rfl) rfl) #[.agg #[.string nk, .string pf, .slice A pn pc]] (by simp [evalS, e0]) ((hcall wz hGz.below).mono fun e w' h => ?_)
      obtain ⟨rfl, hw'⟩ := h
      exact ⟨_, rfl, hGz.step hw' rfl _, rfl, fun k _ _ _ h => h⟩
    obtain _ | iz := iz
    · obtain rfl := Option.some.inj hiz
      have e0 : stz 15 = .pointer (some ⟨bf, 0, none⟩) := (hFz 15 (by decide)).trans s2
      refine opStep_value (v := .pointer (some ⟨bf, 1, none⟩)) (w' := wz) ?_ ⟨hGz.step (Below.refl _ _) rfl _, rfl, fun k _ _ _ h => h⟩
      simp only [execOp, evalS, e0]
      go_simp
    obtain _ | iz := iz
    · obtain rfl := Option.some.inj hiz
      have e0 : stz 55 = .pointer (some ⟨bf, 1, none⟩) := hAz 2 (haz { on := 2, ground := .data } (by simp) rfl) h99
      have z0 := keptCell hGz.below cf
      refine opStep_value (v := .int .i64 kd) (w' := wz) ?_ ⟨hGz.step (Below.refl _ _) rfl _, rfl, fun k _ _ _ h => h⟩
      simp only [execOp, evalS, e0]
      go_simp
    obtain _ | iz := iz
    · obtain rfl := Option.some.inj hiz
      have e0 : stz 54 = .string nm := hAz 1 (haz { on := 1, ground := .data } (by simp) rfl) h99
      have e1 : stz 56 = .int .i64 kd := hAz 3 (haz { on := 3, ground := .data } (by simp) rfl) h99
      refine opStep_value (v := .agg #[.string nm, .int .i64 kd, .bool false, .string ⟨#[]⟩, .slice none 0 0, .slice none 0 0]) (w' := wz) ?_ ⟨hGz.step (Below.refl _ _) rfl _, rfl, fun k _ _ _ h => h⟩
      simp only [execOp, evalS]
      go_simp
    obtain _ | iz := iz
    · obtain rfl := Option.some.inj hiz
      have hs : Lz 6 = false := by
        cases h : Lz 6 with
        | false => rfl
        | true => rw [hcz 6 _ h rfl { on := 5, ground := .data } (by simp) rfl] at hlz; cases hlz
      refine opStep_value (v := .pointer (some ⟨wz.heap.size, 0, none⟩)) (w' := wz.alloc (.cells #[.string ⟨#[]⟩, .int .i64 0, .bool false, .string ⟨#[]⟩, .slice none 0 0, .slice none 0 0] 56)) ?_ ⟨hGz.alloc (q := ⟨5, 6, 17, #[.string ⟨#[]⟩, .int .i64 0, .bool false, .string ⟨#[]⟩, .slice none 0 0, .slice none 0 0], #[.string nm, .int .i64 kd, .bool false, .string ⟨#[]⟩, .slice none 0 0, .slice none 0 0], 56⟩) (by intro p hp; simp only [List.mem_cons, List.not_mem_nil, or_false] at hp; subst hp; intro _; rfl) rfl (Nat.ne_of_beq_eq_false rfl) hs, trivial, fun k _ _ _ h => h⟩
      simp only [execOp]
      go_simp
    obtain _ | iz := iz
    · obtain rfl := Option.some.inj hiz
      have hb := haz { on := 5, ground := .data } (by simp) rfl
      obtain ⟨b, q1, q2, q3⟩ := hGz.box ⟨5, 6, 17, #[.string ⟨#[]⟩, .int .i64 0, .bool false, .string ⟨#[]⟩, .slice none 0 0, .slice none 0 0], #[.string nm, .int .i64 kd, .bool false, .string ⟨#[]⟩, .slice none 0 0, .slice none 0 0], 56⟩ (by simp) hb
      rw [hlz] at q3
      simp only [Bool.false_eq_true, if_false] at q3
      replace q1 : stz 17 = _ := q1
      have e2 : stz 57 = .agg #[.string nm, .int .i64 kd, .bool false, .string ⟨#[]⟩, .slice none 0 0, .slice none 0 0] := hAz 4 (haz { on := 4, ground := .data } (by simp) rfl) h99
      obtain ⟨x0, x1, x2, x3, x4, x5⟩ : wz.cell? ⟨b, 0, none⟩ = some (.string ⟨#[]⟩) ∧ wz.cell? ⟨b, 1, none⟩ = some (.int .i64 0) ∧ wz.cell? ⟨b, 2, none⟩ = some (.bool false) ∧ wz.cell? ⟨b, 3, none⟩ = some (.string ⟨#[]⟩) ∧ wz.cell? ⟨b, 4, none⟩ = some (.slice none 0 0) ∧ wz.cell? ⟨b, 5, none⟩ = some (.slice none 0 0) := by simp [World.cell?, q3]
      obtain ⟨y0, y1, y2, y3, y4, y5⟩ : wz.frozen? ⟨b, 0, none⟩ = false ∧ wz.frozen? ⟨b, 1, none⟩ = false ∧ wz.frozen? ⟨b, 2, none⟩ = false ∧ wz.frozen? ⟨b, 3, none⟩ = false ∧ wz.frozen? ⟨b, 4, none⟩ = false ∧ wz.frozen? ⟨b, 5, none⟩ = false := by simp [World.frozen?, q3]
      have g0 := heap_setCell_same _ b 0 _ 56 (.string nm) q3
      have g1 := heap_setCell_same _ b 1 _ 56 (.int .i64 kd) g0
      have g2 := heap_setCell_same _ b 2 _ 56 (.bool false) g1
      have g3 := heap_setCell_same _ b 3 _ 56 (.string ⟨#[]⟩) g2
      have g4 := heap_setCell_same _ b 4 _ 56 (.slice none 0 0) g3
      have g5 := heap_setCell_same _ b 5 _ 56 (.slice none 0 0) g4
      refine opStep_skip (w' := (((((wz.setCell ⟨b, 0, none⟩ (.string nm)).setCell ⟨b, 1, none⟩ (.int .i64 kd)).setCell ⟨b, 2, none⟩ (.bool false)).setCell ⟨b, 3, none⟩ (.string ⟨#[]⟩)).setCell ⟨b, 4, none⟩ (.slice none 0 0)).setCell ⟨b, 5, none⟩ (.slice none 0 0)) ?_ ⟨hGz.store (q := ⟨5, 6, 17, #[.string ⟨#[]⟩, .int .i64 0, .bool false, .string ⟨#[]⟩, .slice none 0 0, .slice none 0 0], #[.string nm, .int .i64 kd, .bool false, .string ⟨#[]⟩, .slice none 0 0, .slice none 0 0], 56⟩) (by intro p hp; simp only [List.mem_cons, List.not_mem_nil, or_false] at hp; subst hp; intro _; rfl) rfl (by simp) (Nat.ne_of_beq_eq_false rfl) hb q1 q2 (by rw [g5]; rfl) (((((((OnlyB.refl _ _).set 0 _).set 1 _).set 2 _).set 3 _).set 4 _).set 5 _) _, trivial, fun k _ _ _ h => h⟩
      simp only [execOp, evalS, q1, e2]
      go_simp
    · exfalso
      have hlen : iz + 7 < 7 := (List.getElem?_eq_some_iff.1 hiz).1
      omega
  · intro Lz stz wz hGz _ hall _
    obtain ⟨b0, q0, r0, t0⟩ := hGz.box ⟨5, 6, 17, #[.string ⟨#[]⟩, .int .i64 0, .bool false, .string ⟨#[]⟩, .slice none 0 0, .slice none 0 0], #[.string nm, .int .i64 kd, .bool false, .string ⟨#[]⟩, .slice none 0 0, .slice none 0 0], 56⟩ (by simp) (hall 5 (by decide))
    rw [show Lz 6 = true from hall 6 (by decide)] at t0
    exact hQ stz wz b0 hGz.below q0 r0 t0

/-- 'g.Subs = append(g.Subs, Get(l, parts, q, to, k.Picks))'. -/
def getMoreOps : List Oper := [
  { dst := some 107, op := Op.fieldAddr 56 (Operand.tmp 17) 5, type := 0, pos := "ref.go:361", after := #[], guard := none },
   { dst := some 108, op := Op.load 54 (Operand.tmp 107), type := 54, pos := "ref.go:361", after := #[{ on := 0, ground := Ground.data }], guard := none },
   { dst := some 109, op := Op.move (Operand.tmp 0), type := 22, pos := "ref.go:361", after := #[], guard := none },
   { dst := some 110, op := Op.move (Operand.tmp 1), type := 37, pos := "ref.go:361", after := #[], guard := none },
   { dst := some 111, op := Op.move (Operand.tmp 23), type := 50, pos := "ref.go:361", after := #[], guard := none },
   { dst := some 112, op := Op.move (Operand.tmp 22), type := 9, pos := "ref.go:361", after := #[], guard := none },
   { dst := some 113, op := Op.fieldAddr 72 (Operand.tmp 13) 2, type := 0, pos := "ref.go:361", after := #[], guard := none },
   { dst := some 114, op := Op.load 23 (Operand.tmp 113), type := 23, pos := "ref.go:361", after := #[{ on := 6, ground := Ground.data }], guard := none },
   { dst := some 115, op := Op.call { callee := Callee.value (Operand.func 21), args := #[Operand.tmp 109, Operand.tmp 110, Operand.tmp 111, Operand.tmp 112, Operand.tmp 114], argTypes := #[22, 37, 50, 9, 23] }, type := 26, pos := "ref.go:361", after := #[{ on := 2, ground := Ground.data }, { on := 3, ground := Ground.data }, { on := 4, ground := Ground.data }, { on := 5, ground := Ground.data }, { on := 7, ground := Ground.data }], guard := none },
   { dst := some 116, op := Op.buildSlice 54 1 #[(0, Operand.tmp 115)], type := 54, pos := "ref.go:361", after := #[{ on := 8, ground := Ground.data }], guard := none },
   { dst := some 117, op := Op.call { callee := Callee.builtin Builtin.append, args := #[Operand.tmp 108, Operand.tmp 116], argTypes := #[54, 54] }, type := 54, pos := "ref.go:361", after := #[{ on := 1, ground := Ground.data }, { on := 9, ground := Ground.data }, { on := 8, ground := Ground.chain }], guard := none },
   { dst := some 118, op := Op.fieldAddr 56 (Operand.tmp 17) 5, type := 0, pos := "ref.go:361", after := #[{ on := 0, ground := Ground.phase }, { on := 1, ground := Ground.phase }, { on := 2, ground := Ground.phase }, { on := 3, ground := Ground.phase }, { on := 4, ground := Ground.phase }, { on := 5, ground := Ground.phase }, { on := 6, ground := Ground.phase }, { on := 7, ground := Ground.phase }, { on := 8, ground := Ground.phase }, { on := 9, ground := Ground.phase }, { on := 10, ground := Ground.phase }], guard := none },
   { dst := none, op := Op.store 54 (Operand.tmp 118) (Operand.tmp 117), type := 0, pos := "ref.go:361", after := #[{ on := 11, ground := Ground.data }, { on := 10, ground := Ground.data }, { on := 10, ground := Ground.chain }, { on := 0, ground := Ground.phase }, { on := 1, ground := Ground.phase }, { on := 2, ground := Ground.phase }, { on := 3, ground := Ground.phase }, { on := 4, ground := Ground.phase }, { on := 5, ground := Ground.phase }, { on := 6, ground := Ground.phase }, { on := 7, ground := Ground.phase }, { on := 8, ground := Ground.phase }, { on := 9, ground := Ground.phase }, { on := 10, ground := Ground.phase }], guard := none }]
/-- What the append leaves. -/
def R22 (w5 : World) (d : Nat) (M : List (Got d)) (base k : Nat) (sv : Nat → Value) (old v : Value) (w : World) : Prop := ∃ X a c, Below w5.heap.size w5 X ∧ M.length ≤ c ∧ Free (fun q => q < w5.heap.size) X (fun w => GotsAt w d a M) ∧ w.ownsRow base 26 1 v (k + 1) ((List.range (k * 1)).map sv ++ [.slice a M.length c]) ∧ X.grownBy w old.ownBlock ∧ (v.ownBlock = old.ownBlock ∨ v.ownBlock = some X.heap.size)
def A22 (w5 : World) (d bg : Nat) (M : List (Got d)) (base n : Nat) (sv : Nat → Value) (old : Value) (vals : List Value) (_ : Nat → Bool) (k : Nat) (x : Value) (w : World) : Prop :=
  if k = 8 then ∃ a c, x = .slice a M.length c ∧ M.length ≤ c ∧ Free (fun q => q < w5.heap.size) w (fun w => GotsAt w d a M) else
  if k = 9 then ∃ b a c, x = .slice (some ⟨b, 0, none⟩) 1 1 ∧ w.heap[b]? = some (.cells #[.slice a M.length c] 26 (0, 0)) ∧ M.length ≤ c ∧ Free (fun q => q < w5.heap.size) w (fun w => GotsAt w d a M) else
  if k = 10 then R22 w5 d M base n sv old x w else
  if k = 12 then ∃ w' v', R22 w5 d M base n sv old v' w' ∧ w = w'.setCell ⟨bg, 5, none⟩ v' else x = vals.getD k undef
theorem A22_pure {w5 : World} {d bg : Nat} {M : List (Got d)} {base n : Nat} {sv : Nat → Value} {old : Value} {vals : List Value} {L L' : Nat → Bool} {k : Nat} {x : Value} {w w' : World} (h0 : k ≠ 8) (h1 : k ≠ 9) (h2 : k ≠ 10) (h3 : k ≠ 12) (h : A22 w5 d bg M base n sv old vals L k x w) : A22 w5 d bg M base n sv old vals L' k x w' := by
  unfold A22 at *
  rw [if_neg h0, if_neg h1, if_neg h2, if_neg h3] at *
  exact h
def con22 (k : Nat) : Nat := if k = 8 then 9 else if k = 9 then 10 else if k = 10 then 12 else 99
set_option maxRecDepth 100000 in
set_option maxHeartbeats 4000000 in
theorem getMore {Q : Exit → Act → World → Prop} {a0 : Act} {w5 : World} {d bg bk base k sc n lcap pn pc kn kc : Nat} {la pa sa ka : Option Addr} {qp : Option Addr} {key nm tx : ByteArray} {kd : Int} {sv : Nat → Value} {M : List (Got d)} {i0 : TypeInfo}
    (hi0 : Tryz.prog.info? 26 = some i0) (hz0 : i0.zero = some (.slice none 0 0)) (hz1 : i0.size = 1) (hz2 : i0.bytes = 24)
    (hsz : [107, 108, 109, 110, 111, 112, 113, 114, 115, 116, 117, 118].all (fun d => decide (d < a0.tmps.size)) = true) (hk : k ≤ 60) (hbase : base ≤ w5.heap.size)
    (s17 : slots a0 17 = .pointer (some ⟨bg, 0, none⟩)) (s0 : slots a0 0 = .slice la n lcap) (s1 : slots a0 1 = .slice pa pn pc) (s23 : slots a0 23 = .pointer qp) (s22 : slots a0 22 = .string key) (s13 : slots a0 13 = .pointer (some ⟨bk, 0, none⟩))
    (cg : w5.heap[bg]? = some (.cells #[.string nm, .int .i64 kd, .bool false, .string tx, .slice none 0 0, .slice sa k sc] 56 (0, 0))) (ck : w5.cell? ⟨bk, 2, none⟩ = some (.slice ka kn kc)) (hR : Row w5 base 26 1 (.slice sa k sc) k sv)
    (hcall : ∀ w1, Below w5.heap.size w5 w1 → Calls Tryz.prog 21 #[.slice la n lcap, .slice pa pn pc, .pointer qp, .string key, .slice ka kn kc] w1 fun e w' => (∃ a c, e = .returned (.slice a M.length c) ∧ M.length ≤ c ∧ Free (fun q => q < w1.heap.size) w' (fun w => GotsAt w d a M)) ∧ Below w1.heap.size w1 w')
    (hQ : ∀ s w' v', R22 w5 d M base k sv (.slice sa k sc) v' w' → Q .normal (putAll a0 s [107, 108, 109, 110, 111, 112, 113, 114, 115, 116, 117, 118]) (w'.setCell ⟨bg, 5, none⟩ v')) :
    (Code.region 22 getMoreOps.toArray true).wp Tryz.prog Q a0 w5 := by
  have cg5 : w5.cell? ⟨bg, 5, none⟩ = some (.slice sa k sc) := by simp [World.cell?, cg]
  have hbg : bg < w5.heap.size := lt_of_block cg
  refine wp_region_as (by kernel_rfl) (by kernel_rfl) [107, 108, 109, 110, 111, 112, 113, 114, 115, 116, 117, 118] (by kernel_rfl) hsz (by kernel_rfl) con22 (A22 w5 d bg M base k sv (.slice sa k sc) [.pointer (some ⟨bg, 5, none⟩), .slice sa k sc, .slice la n lcap, .slice pa pn pc, .pointer qp, .string key, .pointer (some ⟨bk, 2, none⟩), .slice ka kn kc, undef, undef, undef, .pointer (some ⟨bg, 5, none⟩)]) (fun L _ w => L 10 = false → Below w5.heap.size w5 w) (fun _ => (Below.refl _ _).drew) ?_ ?_
  · intro L st wz i o hG hL hcl hA hF hi' hl ha
    have h99 : L 99 = false := L99 hL (by decide)
    have u1 : L 10 = true → L 1 = true := fun h => hcl 10 _ h rfl { on := 1, ground := .data } (by simp) rfl
    have u9 : L 10 = true → L 9 = true := fun h => hcl 10 _ h rfl { on := 9, ground := .data } (by simp) rfl
    have u8 : L 9 = true → L 8 = true := fun h => hcl 9 _ h rfl { on := 8, ground := .data } (by simp) rfl
    have u7 : L 8 = true → L 7 = true := fun h => hcl 8 _ h rfl { on := 7, ground := .data } (by simp) rfl
    have u10 : L 12 = true → L 10 = true := fun h => hcl 12 _ h rfl { on := 10, ground := .data } (by simp) rfl
    have down : ∀ j, j ≠ 10 → also L j 10 = false → L 10 = false := fun j hj h => by rw [also_no (Ne.symm hj)] at h; exact h
    have e17 : st 17 = .pointer (some ⟨bg, 0, none⟩) := (hF 17 (by decide)).trans s17
    obtain _ | i := i
    · obtain rfl := Option.some.inj hi'
      refine opStep_value (v := .pointer (some ⟨bg, 5, none⟩)) (w' := wz) ?_ ⟨fun h => hG (down 0 (by decide) h), rfl, fun k _ _ _ h => h⟩
      simp only [execOp, evalS, e17]
      go_simp
    obtain _ | i := i
    · obtain rfl := Option.some.inj hi'
      have e1 : st 107 = .pointer (some ⟨bg, 5, none⟩) := hA 0 (ha { on := 0, ground := .data } (by simp) rfl) h99
      have z0 := keptCell (hG (L_not u1 hl)) cg5
      refine opStep_value (v := .slice sa k sc) (w' := wz) ?_ ⟨fun h => hG (down 1 (by decide) h), rfl, fun k _ _ _ h => h⟩
      simp only [execOp, evalS, e1]
      go_simp
    obtain _ | i := i
    · obtain rfl := Option.some.inj hi'
      have e1 : st 0 = .slice la n lcap := (hF 0 (by decide)).trans s0
      exact opStep_value (v := st 0) (w' := wz) rfl ⟨fun h => hG (down 2 (by decide) h), e1, fun k _ _ _ h => h⟩
    obtain _ | i := i
    · obtain rfl := Option.some.inj hi'
      have e1 : st 1 = .slice pa pn pc := (hF 1 (by decide)).trans s1
      exact opStep_value (v := st 1) (w' := wz) rfl ⟨fun h => hG (down 3 (by decide) h), e1, fun k _ _ _ h => h⟩
    obtain _ | i := i
    · obtain rfl := Option.some.inj hi'
      have e1 : st 23 = .pointer qp := (hF 23 (by decide)).trans s23
      exact opStep_value (v := st 23) (w' := wz) rfl ⟨fun h => hG (down 4 (by decide) h), e1, fun k _ _ _ h => h⟩
    obtain _ | i := i
    · obtain rfl := Option.some.inj hi'
      have e1 : st 22 = .string key := (hF 22 (by decide)).trans s22
      exact opStep_value (v := st 22) (w' := wz) rfl ⟨fun h => hG (down 5 (by decide) h), e1, fun k _ _ _ h => h⟩
    obtain _ | i := i
    · obtain rfl := Option.some.inj hi'
      have e1 : st 13 = .pointer (some ⟨bk, 0, none⟩) := (hF 13 (by decide)).trans s13
      refine opStep_value (v := .pointer (some ⟨bk, 2, none⟩)) (w' := wz) ?_ ⟨fun h => hG (down 6 (by decide) h), rfl, fun k _ _ _ h => h⟩
      simp only [execOp, evalS, e1]
      go_simp
    obtain _ | i := i
    · obtain rfl := Option.some.inj hi'
      have e1 : st 113 = .pointer (some ⟨bk, 2, none⟩) := hA 6 (ha { on := 6, ground := .data } (by simp) rfl) h99
      have z0 := keptCell (hG (L_not (fun h => u7 (u8 (u9 h))) hl)) ck
      refine opStep_value (v := .slice ka kn kc) (w' := wz) ?_ ⟨fun h => hG (down 7 (by decide) h), rfl, fun k _ _ _ h => h⟩
      simp only [execOp, evalS, e1]
      go_simp
    obtain _ | i := i
    · obtain rfl := Option.some.inj hi'
      have e2 : st 109 = .slice la n lcap := hA 2 (ha { on := 2, ground := .data } (by simp) rfl) h99
      have e3 : st 110 = .slice pa pn pc := hA 3 (ha { on := 3, ground := .data } (by simp) rfl) h99
      have e4 : st 111 = .pointer qp := hA 4 (ha { on := 4, ground := .data } (by simp) rfl) h99
      have e5 : st 112 = .string key := hA 5 (ha { on := 5, ground := .data } (by simp) rfl) h99
      have e7 : st 114 = .slice ka kn kc := hA 7 (ha { on := 7, ground := .data } (by simp) rfl) h99
      have l9 : L 9 = false := L_not u8 hl
      have l10 : L 10 = false := L_not u9 l9
      have l12 : L 12 = false := L_not u10 l10
      have hB := hG l10
      refine opStep_fn 21 #[.tmp 109, .tmp 110, .tmp 111, .tmp 112, .tmp 114] #[22, 37, 50, 9, 23] rfl (enters_of Tryz.func21 (by kernel_rfl) rfl) #[.slice la n lcap, .slice pa pn pc, .pointer qp, .string key, .slice ka kn kc] (by simp [evalS, e2, e3, e4, e5, e7]) ((hcall wz hB).mono fun e w' h => ?_)
      obtain ⟨⟨a, c, rfl, hc, hf⟩, hw'⟩ := h
      exact ⟨_, rfl, fun _ => hB.trans (hw'.mono hB.size), ⟨a, c, rfl, hc, hf.less fun q _ hq => Nat.lt_of_lt_of_le hq hB.size⟩, fun k hk hLk _ h => A22_pure hk (fun e => by subst e; rw [l9] at hLk; cases hLk) (fun e => by subst e; rw [l10] at hLk; cases hLk) (fun e => by subst e; rw [l12] at hLk; cases hLk) h⟩
    obtain _ | i := i
    · obtain rfl := Option.some.inj hi'
      have l10 : L 10 = false := L_not u9 hl
      have l12 : L 12 = false := L_not u10 l10
      have hB := hG l10
      obtain ⟨a, c, e1, hc, hf⟩ : ∃ a c, st 115 = .slice a M.length c ∧ M.length ≤ c ∧ Free (fun q => q < w5.heap.size) wz (fun w => GotsAt w d a M) := hA 8 (ha { on := 8, ground := .data } (by simp) rfl) hl
      have hb := below1 wz (Obj.cells #[.slice a M.length c] 26)
      refine opStep_value (v := .slice (some ⟨wz.heap.size, 0, none⟩) 1 1) (w' := wz.alloc (.cells #[.slice a M.length c] 26)) ?_ ⟨fun _ => hB.trans (hb.mono hB.size), ⟨wz.heap.size, a, c, rfl, heap_alloc_new _ _, hc, hf.kept hb⟩, fun k hk hLk hlv h => A22_pure (fun e => ?_) hk (fun e => by subst e; rw [l10] at hLk; cases hLk) (fun e => by subst e; rw [l12] at hLk; cases hLk) h⟩
      · simp only [execOp, List.map_toArray, List.map_cons, List.map_nil, evalS, e1]
        go_simp
      · subst e
        exact absurd hlv (by unfold live also con22; simp)
    obtain _ | i := i
    · obtain rfl := Option.some.inj hi'
      have l12 : L 12 = false := L_not u10 hl
      have hB := hG hl
      have e1 : st 108 = .slice sa k sc := hA 1 (ha { on := 1, ground := .data } (by simp) rfl) h99
      have l9 : L 9 = true := ha { on := 9, ground := .data } (by simp) rfl
      obtain ⟨b, a, c, e2, hbo, hc, hf⟩ : ∃ b a c, st 116 = .slice (some ⟨b, 0, none⟩) 1 1 ∧ wz.heap[b]? = some (.cells #[.slice a M.length c] 26 (0, 0)) ∧ M.length ≤ c ∧ Free (fun q => q < w5.heap.size) wz (fun w => GotsAt w d a M) := hA 9 l9 hl
      refine opStep_app (.tmp 108) (.tmp 116) 54 rfl base 26 i0 _ 1 24 Tryz.underlying54 hi0 hz0 hz1 hz2 rfl (by decide) (.slice sa k sc) k _ e1 (hR.kept hB) (some ⟨b, 0, none⟩) 1 1 [.slice a M.length c] e2 rfl (obj_news hbo) (fun h => by cases h) (by intro u hu; simp at hu; subst hu; rfl) (by unfold maxLen; omega) (by omega) (Nat.le_trans hbase hB.size) ?_
      intro v' w' hown hgr hvb
      refine ⟨fun h => (by rw [also_yes] at h; cases h), ⟨wz, a, c, hB, hc, hf, hown, hgr, hvb⟩, fun k hk hLk hlv h => A22_pure (fun e => ?_) (fun e => ?_) hk (fun e => by subst e; rw [l12] at hLk; cases hLk) h⟩
      · subst e
        exact absurd hlv (by unfold live con22; rw [if_pos rfl, also_no (by decide), l9]; simp)
      · subst e
        exact absurd hlv (by unfold live also con22; simp)
    obtain _ | i := i
    · obtain rfl := Option.some.inj hi'
      refine opStep_value (v := .pointer (some ⟨bg, 5, none⟩)) (w' := wz) ?_ ⟨fun h => hG (down 11 (by decide) h), rfl, fun k _ _ _ h => h⟩
      simp only [execOp, evalS, e17]
      go_simp
    obtain _ | i := i
    · obtain rfl := Option.some.inj hi'
      have h10 : L 10 = true := ha { on := 10, ground := .data } (by simp) rfl
      have e1 : st 118 = .pointer (some ⟨bg, 5, none⟩) := hA 11 (ha { on := 11, ground := .data } (by simp) rfl) h99
      have hr : R22 w5 d M base k sv (.slice sa k sc) (st 117) wz := hA 10 h10 hl
      obtain ⟨X, a, c, r1, rc, r2, r3, r4, r5⟩ := hr
      obtain ⟨va, vc, e2⟩ := owned_slice r3
      have hbz : wz.heap[bg]? = some (.cells #[.string nm, .int .i64 kd, .bool false, .string tx, .slice none 0 0, .slice sa k sc] 56 (0, 0)) := by
        rw [r4.block bg (Nat.lt_of_lt_of_le hbg r1.size) (fun e => ?_), r1.block bg hbg]
        · exact cg
        · obtain ⟨cs, ho⟩ := hR.obj e.symm
          rw [cg] at ho
          simp at ho
      have hu : wz.cell? ⟨bg, 5, none⟩ = some (.slice sa k sc) := by simp [World.cell?, hbz]
      have hfz : wz.frozen? ⟨bg, 5, none⟩ = false := by simp [World.frozen?, hbz]
      have l9 : L 9 = true := u9 h10
      refine opStep_skip (w' := wz.setCell ⟨bg, 5, none⟩ (st 117)) ?_ ⟨fun h => (by rw [also_no (by decide), h10] at h; cases h), ⟨wz, st 117, ⟨X, a, c, r1, rc, r2, r3, r4, r5⟩, rfl⟩, fun k hk hLk hlv h => A22_pure (fun e => ?_) (fun e => ?_) (fun e => ?_) hk h⟩
      · rw [e2]
        simp only [execOp, evalS, e1, e2]
        go_simp
      · subst e
        exact absurd hlv (by unfold live con22; rw [if_pos rfl, also_no (by decide), l9]; simp)
      · subst e
        exact absurd hlv (by unfold live con22; rw [if_neg (by decide), if_pos rfl, also_no (by decide), h10]; simp)
      · subst e
        exact absurd hlv (by unfold live also con22; simp)
    · exfalso
      have hlen : i + 13 < 13 := (List.getElem?_eq_some_iff.1 hi').1
      omega
  · intro L st wz hG hL hall hA
    have h99 : L 99 = false := L99 hL (by decide)
    obtain ⟨w', v', hr, e⟩ : ∃ w' v', R22 w5 d M base k sv (.slice sa k sc) v' w' ∧ wz = w'.setCell ⟨bg, 5, none⟩ v' := hA 12 (hall 12 (by decide)) h99
    rw [e]
    exact hQ st w' v' hr
end Go.Proofs.YtjjggefmmeminabGreat
