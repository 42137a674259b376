import Derived.Test.YtjjggefmmeminabRegGd
import Derived.Test.YtjjggefmmeminabMnAlive
import Derived.Test.YtjjggefmmeminabRyCalled
/-
  The walks of stitchlaw6.shape and of stitchlaw6.MeanShape: they answer true.
-/
namespace Go.Proofs.Ytjjggefmmeminab
open Go.RowKit Go.Sort Go.PlainAid

/-- 'g.Name != ref.Called(picks[i])'. -/
def shNameOps : List Oper := [
  { dst := some 21, op := Op.fieldAddr 66 (Operand.tmp 6) 0, type := 0, pos := "law.go:84", after := #[], guard := none },
   { dst := some 22, op := Op.load 9 (Operand.tmp 21), type := 9, pos := "law.go:84", after := #[{ on := 0, ground := Ground.data }], guard := none },
   { dst := some 23, op := Op.move (Operand.tmp 1), type := 22, pos := "law.go:84", after := #[], guard := none },
   { dst := some 24, op := Op.move (Operand.tmp 5), type := 3, pos := "law.go:84", after := #[], guard := none },
   { dst := some 25, op := Op.indexAddr 22 (Operand.tmp 23) (Operand.tmp 24), type := 0, pos := "law.go:84", after := #[{ on := 2, ground := Ground.data }, { on := 3, ground := Ground.data }], guard := none },
   { dst := some 26, op := Op.load 63 (Operand.tmp 25), type := 63, pos := "law.go:84", after := #[{ on := 4, ground := Ground.data }], guard := none },
   { dst := some 27, op := Op.call { callee := Callee.value (Operand.func 55), args := #[Operand.tmp 26], argTypes := #[63] }, type := 9, pos := "law.go:84", after := #[{ on := 5, ground := Ground.data }], guard := none },
   { dst := some 28, op := Op.binOp BinOp.neq 9 (Operand.tmp 22) (Operand.tmp 27) 9, type := 4, pos := "law.go:84", after := #[{ on := 1, ground := Ground.data }, { on := 6, ground := Ground.data }], guard := none }]
set_option maxRecDepth 100000 in
set_option maxHeartbeats 4000000 in
theorem shName {Q : Exit → Act → World → Prop} {a0 : Act} {w5 : World} {b g o n pc k pm C : Nat} {A : Option Addr} {nk pf nm : ByteArray}
    (hsz : [21, 22, 23, 24, 25, 26, 27, 28].all (fun d => decide (d < a0.tmps.size)) = true)
    (s6 : slots a0 6 = .pointer (some ⟨b, 0, none⟩)) (s1 : slots a0 1 = .slice (some ⟨g, o, none⟩) n pc) (s5 : slots a0 5 = .int .i64 (k : Int)) (hk : k < n) (cn : w5.cell? ⟨b, 0, none⟩ = some (.string nm)) (c0 : w5.cell? ⟨g, o + k * 3, none⟩ = some (.string nk)) (c1 : w5.cell? ⟨g, o + k * 3 + 1, none⟩ = some (.string pf)) (c2 : w5.cell? ⟨g, o + k * 3 + 2, none⟩ = some (.slice A pm C))
    (hcall : ∀ w1, Below w5.heap.size w5 w1 → Calls Try.prog 55 #[.agg #[.string nk, .string pf, .slice A pm C]] w1 fun e w' => e = .returned (.string nm) ∧ Below w1.heap.size w1 w')
    (hQ : ∀ s w', Below w5.heap.size w5 w' → s 28 = .bool false → Q .normal (putAll a0 s [21, 22, 23, 24, 25, 26, 27, 28]) w') :
    (Code.region 6 shNameOps.toArray true).wp Try.prog Q a0 w5 := by
  have hk1 : (k : Int) < (n : Int) := by omega
  have hk0 : (0 : Int) ≤ (k : Int) := by omega
  refine wp_region_as (by kernel_rfl) (by kernel_rfl) [21, 22, 23, 24, 25, 26, 27, 28] (by kernel_rfl) hsz (by kernel_rfl) (fun _ => 99) (asV [] [.pointer (some ⟨b, 0, none⟩), .string nm, .slice (some ⟨g, o, none⟩) n pc, .int .i64 (k : Int), .pointer (some ⟨g, o + k * 3, none⟩), .agg #[.string nk, .string pf, .slice A pm C], .string nm, .bool false]) (boxG w5 []) boxG.start ?_ ?_
  · intro Lz stz wz iz oz hGz hLz hcz hAz hFz hiz hlz haz
    have h99 : Lz 99 = false := by
      cases h : Lz 99 with
      | false => rfl
      | true => exact absurd (hLz 99 h) (by decide)
    obtain _ | iz := iz
    · obtain rfl := Option.some.inj hiz
      have e0 : stz 6 = .pointer (some ⟨b, 0, none⟩) := (hFz 6 (by decide)).trans s6
      refine opStep_value (v := .pointer (some ⟨b, 0, none⟩)) (w' := wz) ?_ ⟨hGz.step (Below.refl _ _) rfl _, rfl, fun k _ _ _ h => h⟩
      simp only [execOp, evalS, e0]
      go_simp
    obtain _ | iz := iz
    · obtain rfl := Option.some.inj hiz
      have e0 : stz 21 = .pointer (some ⟨b, 0, none⟩) := hAz 0 (haz { on := 0, ground := .data } (by simp) rfl) h99
      have z0 := keptCell hGz.below cn
      refine opStep_value (v := .string nm) (w' := wz) ?_ ⟨hGz.step (Below.refl _ _) rfl _, rfl, fun k _ _ _ h => h⟩
      simp only [execOp, evalS, e0]
      go_simp
    obtain _ | iz := iz
    · obtain rfl := Option.some.inj hiz
      have e1 : stz 1 = .slice (some ⟨g, o, none⟩) n pc := (hFz 1 (by decide)).trans s1
      exact opStep_value (v := stz 1) (w' := wz) rfl ⟨hGz.step (Below.refl _ _) rfl _, e1, fun k _ _ _ h => h⟩
    obtain _ | iz := iz
    · obtain rfl := Option.some.inj hiz
      have e1 : stz 5 = .int .i64 (k : Int) := (hFz 5 (by decide)).trans s5
      exact opStep_value (v := stz 5) (w' := wz) rfl ⟨hGz.step (Below.refl _ _) rfl _, e1, fun k _ _ _ h => h⟩
    obtain _ | iz := iz
    · obtain rfl := Option.some.inj hiz
      have e0 : stz 23 = .slice (some ⟨g, o, none⟩) n pc := hAz 2 (haz { on := 2, ground := .data } (by simp) rfl) h99
      have e1 : stz 24 = .int .i64 (k : Int) := hAz 3 (haz { on := 3, ground := .data } (by simp) rfl) h99
      refine opStep_value (v := .pointer (some ⟨g, o + k * 3, none⟩)) (w' := wz) ?_ ⟨hGz.step (Below.refl _ _) rfl _, rfl, fun k _ _ _ h => h⟩
      simp only [execOp, evalS, e0, e1]
      go_simp
    obtain _ | iz := iz
    · obtain rfl := Option.some.inj hiz
      have e0 : stz 25 = .pointer (some ⟨g, o + k * 3, none⟩) := hAz 4 (haz { on := 4, ground := .data } (by simp) rfl) h99
      have z0 := keptCell hGz.below c0
      have z1 := keptCell hGz.below c1
      have z2 := keptCell hGz.below c2
      refine opStep_value (v := .agg #[.string nk, .string pf, .slice A pm C]) (w' := wz) ?_ ⟨hGz.step (Below.refl _ _) rfl _, rfl, fun k _ _ _ h => h⟩
      simp only [execOp, evalS, e0]
      go_simp
    obtain _ | iz := iz
    · obtain rfl := Option.some.inj hiz
      have e0 : stz 26 = .agg #[.string nk, .string pf, .slice A pm C] := hAz 5 (haz { on := 5, ground := .data } (by simp) rfl) h99
      refine opStep_fn 55 #[.tmp 26] #[63] rfl (enters_of Try.func55 (by kernel_rfl) rfl) #[.agg #[.string nk, .string pf, .slice A pm C]] (by simp [evalS, e0]) ((hcall wz hGz.below).mono fun e w' h => ?_)
      obtain ⟨rfl, hw'⟩ := h
      exact ⟨_, rfl, hGz.step hw' rfl _, rfl, fun k _ _ _ h => h⟩
    obtain _ | iz := iz
    · obtain rfl := Option.some.inj hiz
      have e0 : stz 22 = .string nm := hAz 1 (haz { on := 1, ground := .data } (by simp) rfl) h99
      have e1 : stz 27 = .string nm := hAz 6 (haz { on := 6, ground := .data } (by simp) rfl) h99
      refine opStep_value (v := .bool false) (w' := wz) ?_ ⟨hGz.step (Below.refl _ _) rfl _, rfl, fun k _ _ _ h => h⟩
      simp only [execOp, evalS, e0, e1]
      go_simp
    · exfalso
      have hlen : iz + 8 < 8 := (List.getElem?_eq_some_iff.1 hiz).1
      omega
  · intro Lz stz wz hGz hLz hall hvals
    have h99 : Lz 99 = false := by
      cases h : Lz 99 with
      | false => rfl
      | true => exact absurd (hLz 99 h) (by decide)
    exact hQ stz wz hGz.below (hvals 7 (hall 7 (by decide)) h99)
/-- 'g.Text != .. || len(g.Subs) > 0 || !g.Null && !shape(g.Sub, picks[i].Picks)'. -/
def shOneOps : List Oper := [
  { dst := some 67, op := Op.fieldAddr 66 (Operand.tmp 6) 3, type := 0, pos := "law.go:96", after := #[], guard := none },
   { dst := some 68, op := Op.load 9 (Operand.tmp 67), type := 9, pos := "law.go:96", after := #[{ on := 0, ground := Ground.data }], guard := none },
   { dst := some 69, op := Op.binOp BinOp.neq 9 (Operand.tmp 68) (Operand.const (Value.string { data := #[] })) 9, type := 4, pos := "law.go:96", after := #[{ on := 1, ground := Ground.data }], guard := none },
   { dst := some 70, op := Op.move (Operand.tmp 69), type := 4, pos := "law.go:96", after := #[{ on := 2, ground := Ground.data }], guard := none },
   { dst := some 71, op := Op.fieldAddr 66 (Operand.tmp 6) 5, type := 0, pos := "law.go:96", after := #[{ on := 3, ground := Ground.guard }], guard := some (3, false) },
   { dst := some 72, op := Op.load 64 (Operand.tmp 71), type := 64, pos := "law.go:96", after := #[{ on := 4, ground := Ground.data }, { on := 3, ground := Ground.guard }], guard := some (3, false) },
   { dst := some 73, op := Op.call { callee := Callee.builtin Builtin.len, args := #[Operand.tmp 72], argTypes := #[64] }, type := 3, pos := "law.go:96", after := #[{ on := 5, ground := Ground.data }, { on := 3, ground := Ground.guard }], guard := some (3, false) },
   { dst := some 74, op := Op.binOp BinOp.gtr 3 (Operand.tmp 73) (Operand.const (Value.int IntKind.i64 0)) 3, type := 4, pos := "law.go:96", after := #[{ on := 6, ground := Ground.data }, { on := 3, ground := Ground.guard }], guard := some (3, false) },
   { dst := some 75, op := Op.pick (Operand.tmp 70) (Operand.const (Value.bool true)) (Operand.tmp 74), type := 4, pos := "law.go:96", after := #[{ on := 3, ground := Ground.data }, { on := 7, ground := Ground.data }], guard := none },
   { dst := some 76, op := Op.move (Operand.tmp 75), type := 4, pos := "law.go:96", after := #[{ on := 8, ground := Ground.data }, { on := 3, ground := Ground.chain }], guard := none },
   { dst := some 77, op := Op.fieldAddr 66 (Operand.tmp 6) 2, type := 0, pos := "law.go:96", after := #[{ on := 9, ground := Ground.guard }], guard := some (9, false) },
   { dst := some 78, op := Op.load 4 (Operand.tmp 77), type := 4, pos := "law.go:96", after := #[{ on := 10, ground := Ground.data }, { on := 9, ground := Ground.guard }], guard := some (9, false) },
   { dst := some 79, op := Op.unOp UnOp.not 4 (Operand.tmp 78), type := 4, pos := "law.go:96", after := #[{ on := 11, ground := Ground.data }, { on := 9, ground := Ground.guard }], guard := some (9, false) },
   { dst := some 80, op := Op.move (Operand.tmp 79), type := 4, pos := "law.go:96", after := #[{ on := 12, ground := Ground.data }, { on := 9, ground := Ground.chain }, { on := 9, ground := Ground.guard }], guard := some (9, false) },
   { dst := some 81, op := Op.fieldAddr 66 (Operand.tmp 6) 4, type := 0, pos := "law.go:96", after := #[{ on := 13, ground := Ground.guard }], guard := some (13, true) },
   { dst := some 82, op := Op.load 57 (Operand.tmp 81), type := 57, pos := "law.go:96", after := #[{ on := 14, ground := Ground.data }, { on := 13, ground := Ground.guard }], guard := some (13, true) },
   { dst := some 83, op := Op.move (Operand.tmp 1), type := 22, pos := "law.go:96", after := #[{ on := 13, ground := Ground.guard }], guard := some (13, true) },
   { dst := some 84, op := Op.move (Operand.tmp 5), type := 3, pos := "law.go:96", after := #[{ on := 13, ground := Ground.guard }], guard := some (13, true) },
   { dst := some 85, op := Op.indexAddr 22 (Operand.tmp 83) (Operand.tmp 84), type := 0, pos := "law.go:96", after := #[{ on := 16, ground := Ground.data }, { on := 17, ground := Ground.data }, { on := 13, ground := Ground.guard }], guard := some (13, true) },
   { dst := some 86, op := Op.fieldAddr 63 (Operand.tmp 85) 2, type := 0, pos := "law.go:96", after := #[{ on := 18, ground := Ground.data }, { on := 13, ground := Ground.guard }], guard := some (13, true) },
   { dst := some 87, op := Op.load 22 (Operand.tmp 86), type := 22, pos := "law.go:96", after := #[{ on := 19, ground := Ground.data }, { on := 13, ground := Ground.guard }], guard := some (13, true) },
   { dst := some 88, op := Op.call { callee := Callee.value (Operand.func 28), args := #[Operand.tmp 82, Operand.tmp 87], argTypes := #[57, 22] }, type := 4, pos := "law.go:96", after := #[{ on := 15, ground := Ground.data }, { on := 20, ground := Ground.data }, { on := 13, ground := Ground.chain }, { on := 13, ground := Ground.guard }], guard := some (13, true) },
   { dst := some 89, op := Op.unOp UnOp.not 4 (Operand.tmp 88), type := 4, pos := "law.go:96", after := #[{ on := 21, ground := Ground.data }, { on := 13, ground := Ground.guard }], guard := some (13, true) },
   { dst := some 90, op := Op.pick (Operand.tmp 80) (Operand.tmp 89) (Operand.const (Value.bool false)), type := 4, pos := "law.go:96", after := #[{ on := 13, ground := Ground.data }, { on := 22, ground := Ground.data }, { on := 9, ground := Ground.guard }], guard := some (9, false) },
   { dst := some 91, op := Op.pick (Operand.tmp 76) (Operand.const (Value.bool true)) (Operand.tmp 90), type := 4, pos := "law.go:96", after := #[{ on := 9, ground := Ground.data }, { on := 23, ground := Ground.data }], guard := none }]
set_option maxRecDepth 100000 in
set_option maxHeartbeats 4000000 in
theorem shOne {Q : Exit → Act → World → Prop} {a0 : Act} {w5 : World} {b g o n pc k pm C sm SC TC : Nat} {A SA TA : Option Addr}
    (hsz : [67, 68, 69, 70, 71, 72, 73, 74, 75, 76, 77, 78, 79, 80, 81, 82, 83, 84, 85, 86, 87, 88, 89, 90, 91].all (fun d => decide (d < a0.tmps.size)) = true)
    (s6 : slots a0 6 = .pointer (some ⟨b, 0, none⟩)) (s1 : slots a0 1 = .slice (some ⟨g, o, none⟩) n pc) (s5 : slots a0 5 = .int .i64 (k : Int)) (hk : k < n) (cx : w5.cell? ⟨b, 3, none⟩ = some (.string ⟨#[]⟩)) (cz : w5.cell? ⟨b, 2, none⟩ = some (.bool false)) (cs : w5.cell? ⟨b, 4, none⟩ = some (.slice SA sm SC)) (ct : w5.cell? ⟨b, 5, none⟩ = some (.slice TA 0 TC)) (c2 : w5.cell? ⟨g, o + k * 3 + 2, none⟩ = some (.slice A pm C))
    (hcall : ∀ w1, Below w5.heap.size w5 w1 → Calls Try.prog 28 #[.slice SA sm SC, .slice A pm C] w1 fun e w' => e = .returned (.bool true) ∧ Below w1.heap.size w1 w')
    (hQ : ∀ s w', Below w5.heap.size w5 w' → s 91 = .bool false → Q .normal (putAll a0 s [67, 68, 69, 70, 71, 72, 73, 74, 75, 76, 77, 78, 79, 80, 81, 82, 83, 84, 85, 86, 87, 88, 89, 90, 91]) w') :
    (Code.region 16 shOneOps.toArray true).wp Try.prog Q a0 w5 := by
  have hk1 : (k : Int) < (n : Int) := by omega
  have hk0 : (0 : Int) ≤ (k : Int) := by omega
  refine wp_region_asg (by kernel_rfl) (by kernel_rfl) [67, 68, 69, 70, 71, 72, 73, 74, 75, 76, 77, 78, 79, 80, 81, 82, 83, 84, 85, 86, 87, 88, 89, 90, 91] (by kernel_rfl) hsz (by kernel_rfl) (fun _ => 99) (asV [] [.pointer (some ⟨b, 3, none⟩), .string ⟨#[]⟩, .bool false, .bool false, .pointer (some ⟨b, 5, none⟩), .slice TA 0 TC, .int .i64 0, .bool false, .bool false, .bool false, .pointer (some ⟨b, 2, none⟩), .bool false, .bool true, .bool true, .pointer (some ⟨b, 4, none⟩), .slice SA sm SC, .slice (some ⟨g, o, none⟩) n pc, .int .i64 (k : Int), .pointer (some ⟨g, o + k * 3, none⟩), .pointer (some ⟨g, o + k * 3 + 2, none⟩), .slice A pm C, .bool true, .bool false, .bool false, .bool false]) (boxG w5 []) boxG.start ?_ ?_ ?_
  · intro Lz stz wz iz oz gz bz hGz hLz hAz hiz haz hgd
    have h99 : Lz 99 = false := by
      cases h : Lz 99 with
      | false => rfl
      | true => exact absurd (hLz 99 h) (by decide)
    obtain _ | iz := iz
    · obtain rfl := Option.some.inj hiz
      cases hgd
    obtain _ | iz := iz
    · obtain rfl := Option.some.inj hiz
      cases hgd
    obtain _ | iz := iz
    · obtain rfl := Option.some.inj hiz
      cases hgd
    obtain _ | iz := iz
    · obtain rfl := Option.some.inj hiz
      cases hgd
    obtain _ | iz := iz
    · obtain rfl := Option.some.inj hiz
      cases hgd
      exact ⟨70, rfl, by decide, hAz 3 (haz { on := 3, ground := .guard } (by simp) rfl) h99⟩
    obtain _ | iz := iz
    · obtain rfl := Option.some.inj hiz
      cases hgd
      exact ⟨70, rfl, by decide, hAz 3 (haz { on := 3, ground := .guard } (by simp) rfl) h99⟩
    obtain _ | iz := iz
    · obtain rfl := Option.some.inj hiz
      cases hgd
      exact ⟨70, rfl, by decide, hAz 3 (haz { on := 3, ground := .guard } (by simp) rfl) h99⟩
    obtain _ | iz := iz
    · obtain rfl := Option.some.inj hiz
      cases hgd
      exact ⟨70, rfl, by decide, hAz 3 (haz { on := 3, ground := .guard } (by simp) rfl) h99⟩
    obtain _ | iz := iz
    · obtain rfl := Option.some.inj hiz
      cases hgd
    obtain _ | iz := iz
    · obtain rfl := Option.some.inj hiz
      cases hgd
    obtain _ | iz := iz
    · obtain rfl := Option.some.inj hiz
      cases hgd
      exact ⟨76, rfl, by decide, hAz 9 (haz { on := 9, ground := .guard } (by simp) rfl) h99⟩
    obtain _ | iz := iz
    · obtain rfl := Option.some.inj hiz
      cases hgd
      exact ⟨76, rfl, by decide, hAz 9 (haz { on := 9, ground := .guard } (by simp) rfl) h99⟩
    obtain _ | iz := iz
    · obtain rfl := Option.some.inj hiz
      cases hgd
      exact ⟨76, rfl, by decide, hAz 9 (haz { on := 9, ground := .guard } (by simp) rfl) h99⟩
    obtain _ | iz := iz
    · obtain rfl := Option.some.inj hiz
      cases hgd
      exact ⟨76, rfl, by decide, hAz 9 (haz { on := 9, ground := .guard } (by simp) rfl) h99⟩
    obtain _ | iz := iz
    · obtain rfl := Option.some.inj hiz
      cases hgd
      exact ⟨80, rfl, by decide, hAz 13 (haz { on := 13, ground := .guard } (by simp) rfl) h99⟩
    obtain _ | iz := iz
    · obtain rfl := Option.some.inj hiz
      cases hgd
      exact ⟨80, rfl, by decide, hAz 13 (haz { on := 13, ground := .guard } (by simp) rfl) h99⟩
    obtain _ | iz := iz
    · obtain rfl := Option.some.inj hiz
      cases hgd
      exact ⟨80, rfl, by decide, hAz 13 (haz { on := 13, ground := .guard } (by simp) rfl) h99⟩
    obtain _ | iz := iz
    · obtain rfl := Option.some.inj hiz
      cases hgd
      exact ⟨80, rfl, by decide, hAz 13 (haz { on := 13, ground := .guard } (by simp) rfl) h99⟩
    obtain _ | iz := iz
    · obtain rfl := Option.some.inj hiz
      cases hgd
      exact ⟨80, rfl, by decide, hAz 13 (haz { on := 13, ground := .guard } (by simp) rfl) h99⟩
    obtain _ | iz := iz
    · obtain rfl := Option.some.inj hiz
      cases hgd
      exact ⟨80, rfl, by decide, hAz 13 (haz { on := 13, ground := .guard } (by simp) rfl) h99⟩
    obtain _ | iz := iz
    · obtain rfl := Option.some.inj hiz
      cases hgd
      exact ⟨80, rfl, by decide, hAz 13 (haz { on := 13, ground := .guard } (by simp) rfl) h99⟩
    obtain _ | iz := iz
    · obtain rfl := Option.some.inj hiz
      cases hgd
      exact ⟨80, rfl, by decide, hAz 13 (haz { on := 13, ground := .guard } (by simp) rfl) h99⟩
    obtain _ | iz := iz
    · obtain rfl := Option.some.inj hiz
      cases hgd
      exact ⟨80, rfl, by decide, hAz 13 (haz { on := 13, ground := .guard } (by simp) rfl) h99⟩
    obtain _ | iz := iz
    · obtain rfl := Option.some.inj hiz
      cases hgd
      exact ⟨76, rfl, by decide, hAz 9 (haz { on := 9, ground := .guard } (by simp) rfl) h99⟩
    obtain _ | iz := iz
    · obtain rfl := Option.some.inj hiz
      cases hgd
    · exfalso
      have hlen : iz + 25 < 25 := (List.getElem?_eq_some_iff.1 hiz).1
      omega
  · intro Lz stz wz iz oz hGz hLz hcz hAz hFz hiz hlz haz
    have h99 : Lz 99 = false := by
      cases h : Lz 99 with
      | false => rfl
      | true => exact absurd (hLz 99 h) (by decide)
    obtain _ | iz := iz
    · obtain rfl := Option.some.inj hiz
      have e0 : stz 6 = .pointer (some ⟨b, 0, none⟩) := (hFz 6 (by decide)).trans s6
      refine opStep_value (v := .pointer (some ⟨b, 3, none⟩)) (w' := wz) ?_ ⟨hGz.step (Below.refl _ _) rfl _, rfl, fun k _ _ _ h => h⟩
      simp only [execOp, evalS, e0]
      go_simp
    obtain _ | iz := iz
    · obtain rfl := Option.some.inj hiz
      have e0 : stz 67 = .pointer (some ⟨b, 3, none⟩) := hAz 0 (haz { on := 0, ground := .data } (by simp) rfl) h99
      have z0 := keptCell hGz.below cx
      refine opStep_value (v := .string ⟨#[]⟩) (w' := wz) ?_ ⟨hGz.step (Below.refl _ _) rfl _, rfl, fun k _ _ _ h => h⟩
      simp only [execOp, evalS, e0]
      go_simp
    obtain _ | iz := iz
    · obtain rfl := Option.some.inj hiz
      have e0 : stz 68 = .string ⟨#[]⟩ := hAz 1 (haz { on := 1, ground := .data } (by simp) rfl) h99
      refine opStep_value (v := .bool false) (w' := wz) ?_ ⟨hGz.step (Below.refl _ _) rfl _, rfl, fun k _ _ _ h => h⟩
      simp only [execOp, evalS, e0]
      go_simp
    obtain _ | iz := iz
    · obtain rfl := Option.some.inj hiz
      have e0 : stz 69 = .bool false := hAz 2 (haz { on := 2, ground := .data } (by simp) rfl) h99
      refine opStep_value (v := .bool false) (w' := wz) ?_ ⟨hGz.step (Below.refl _ _) rfl _, rfl, fun k _ _ _ h => h⟩
      simp only [execOp, evalS, e0]
      go_simp
    obtain _ | iz := iz
    · obtain rfl := Option.some.inj hiz
      have e0 : stz 6 = .pointer (some ⟨b, 0, none⟩) := (hFz 6 (by decide)).trans s6
      refine opStep_value (v := .pointer (some ⟨b, 5, none⟩)) (w' := wz) ?_ ⟨hGz.step (Below.refl _ _) rfl _, rfl, fun k _ _ _ h => h⟩
      simp only [execOp, evalS, e0]
      go_simp
    obtain _ | iz := iz
    · obtain rfl := Option.some.inj hiz
      have e0 : stz 71 = .pointer (some ⟨b, 5, none⟩) := hAz 4 (haz { on := 4, ground := .data } (by simp) rfl) h99
      have z0 := keptCell hGz.below ct
      refine opStep_value (v := .slice TA 0 TC) (w' := wz) ?_ ⟨hGz.step (Below.refl _ _) rfl _, rfl, fun k _ _ _ h => h⟩
      simp only [execOp, evalS, e0]
      go_simp
    obtain _ | iz := iz
    · obtain rfl := Option.some.inj hiz
      have e0 : stz 72 = .slice TA 0 TC := hAz 5 (haz { on := 5, ground := .data } (by simp) rfl) h99
      refine opStep_value (v := .int .i64 0) (w' := wz) ?_ ⟨hGz.step (Below.refl _ _) rfl _, rfl, fun k _ _ _ h => h⟩
      simp only [execOp]
      go_simp
      rw [show evalS stz (Operand.tmp 72) = _ from e0]
      go_simp
    obtain _ | iz := iz
    · obtain rfl := Option.some.inj hiz
      have e0 : stz 73 = .int .i64 0 := hAz 6 (haz { on := 6, ground := .data } (by simp) rfl) h99
      refine opStep_value (v := .bool false) (w' := wz) ?_ ⟨hGz.step (Below.refl _ _) rfl _, rfl, fun k _ _ _ h => h⟩
      simp only [execOp, evalS, e0]
      go_simp
    obtain _ | iz := iz
    · obtain rfl := Option.some.inj hiz
      have e0 : stz 70 = .bool false := hAz 3 (haz { on := 3, ground := .data } (by simp) rfl) h99
      have e1 : stz 74 = .bool false := hAz 7 (haz { on := 7, ground := .data } (by simp) rfl) h99
      refine opStep_value (v := .bool false) (w' := wz) ?_ ⟨hGz.step (Below.refl _ _) rfl _, rfl, fun k _ _ _ h => h⟩
      simp only [execOp, evalS, e0, e1]
      go_simp
    obtain _ | iz := iz
    · obtain rfl := Option.some.inj hiz
      have e0 : stz 75 = .bool false := hAz 8 (haz { on := 8, ground := .data } (by simp) rfl) h99
      refine opStep_value (v := .bool false) (w' := wz) ?_ ⟨hGz.step (Below.refl _ _) rfl _, rfl, fun k _ _ _ h => h⟩
      simp only [execOp, evalS, e0]
      go_simp
    obtain _ | iz := iz
    · obtain rfl := Option.some.inj hiz
      have e0 : stz 6 = .pointer (some ⟨b, 0, none⟩) := (hFz 6 (by decide)).trans s6
      refine opStep_value (v := .pointer (some ⟨b, 2, none⟩)) (w' := wz) ?_ ⟨hGz.step (Below.refl _ _) rfl _, rfl, fun k _ _ _ h => h⟩
      simp only [execOp, evalS, e0]
      go_simp
    obtain _ | iz := iz
    · obtain rfl := Option.some.inj hiz
      have e0 : stz 77 = .pointer (some ⟨b, 2, none⟩) := hAz 10 (haz { on := 10, ground := .data } (by simp) rfl) h99
      have z0 := keptCell hGz.below cz
      refine opStep_value (v := .bool false) (w' := wz) ?_ ⟨hGz.step (Below.refl _ _) rfl _, rfl, fun k _ _ _ h => h⟩
      simp only [execOp, evalS, e0]
      go_simp
    obtain _ | iz := iz
    · obtain rfl := Option.some.inj hiz
      have e0 : stz 78 = .bool false := hAz 11 (haz { on := 11, ground := .data } (by simp) rfl) h99
      refine opStep_value (v := .bool true) (w' := wz) ?_ ⟨hGz.step (Below.refl _ _) rfl _, rfl, fun k _ _ _ h => h⟩
      simp only [execOp, evalS, e0]
      go_simp
    obtain _ | iz := iz
    · obtain rfl := Option.some.inj hiz
      have e0 : stz 79 = .bool true := hAz 12 (haz { on := 12, ground := .data } (by simp) rfl) h99
      refine opStep_value (v := .bool true) (w' := wz) ?_ ⟨hGz.step (Below.refl _ _) rfl _, rfl, fun k _ _ _ h => h⟩
      simp only [execOp, evalS, e0]
      go_simp
    obtain _ | iz := iz
    · obtain rfl := Option.some.inj hiz
      have e0 : stz 6 = .pointer (some ⟨b, 0, none⟩) := (hFz 6 (by decide)).trans s6
      refine opStep_value (v := .pointer (some ⟨b, 4, none⟩)) (w' := wz) ?_ ⟨hGz.step (Below.refl _ _) rfl _, rfl, fun k _ _ _ h => h⟩
      simp only [execOp, evalS, e0]
      go_simp
    obtain _ | iz := iz
    · obtain rfl := Option.some.inj hiz
      have e0 : stz 81 = .pointer (some ⟨b, 4, none⟩) := hAz 14 (haz { on := 14, ground := .data } (by simp) rfl) h99
      have z0 := keptCell hGz.below cs
      refine opStep_value (v := .slice SA sm SC) (w' := wz) ?_ ⟨hGz.step (Below.refl _ _) rfl _, rfl, fun k _ _ _ h => h⟩
      simp only [execOp, evalS, e0]
      go_simp
    obtain _ | iz := iz
    · obtain rfl := Option.some.inj hiz
      have e1 : stz 1 = .slice (some ⟨g, o, none⟩) n pc := (hFz 1 (by decide)).trans s1
      exact opStep_value (v := stz 1) (w' := wz) rfl ⟨hGz.step (Below.refl _ _) rfl _, e1, fun k _ _ _ h => h⟩
    obtain _ | iz := iz
    · obtain rfl := Option.some.inj hiz
      have e1 : stz 5 = .int .i64 (k : Int) := (hFz 5 (by decide)).trans s5
      exact opStep_value (v := stz 5) (w' := wz) rfl ⟨hGz.step (Below.refl _ _) rfl _, e1, fun k _ _ _ h => h⟩
    obtain _ | iz := iz
    · obtain rfl := Option.some.inj hiz
      have e0 : stz 83 = .slice (some ⟨g, o, none⟩) n pc := hAz 16 (haz { on := 16, ground := .data } (by simp) rfl) h99
      have e1 : stz 84 = .int .i64 (k : Int) := hAz 17 (haz { on := 17, ground := .data } (by simp) rfl) h99
      refine opStep_value (v := .pointer (some ⟨g, o + k * 3, none⟩)) (w' := wz) ?_ ⟨hGz.step (Below.refl _ _) rfl _, rfl, fun k _ _ _ h => h⟩
      simp only [execOp, evalS, e0, e1]
      go_simp
    obtain _ | iz := iz
    · obtain rfl := Option.some.inj hiz
      have e0 : stz 85 = .pointer (some ⟨g, o + k * 3, none⟩) := hAz 18 (haz { on := 18, ground := .data } (by simp) rfl) h99
      refine opStep_value (v := .pointer (some ⟨g, o + k * 3 + 2, none⟩)) (w' := wz) ?_ ⟨hGz.step (Below.refl _ _) rfl _, rfl, fun k _ _ _ h => h⟩
      simp only [execOp, evalS, e0]
      go_simp
    obtain _ | iz := iz
    · obtain rfl := Option.some.inj hiz
      have e0 : stz 86 = .pointer (some ⟨g, o + k * 3 + 2, none⟩) := hAz 19 (haz { on := 19, ground := .data } (by simp) rfl) h99
      have z0 := keptCell hGz.below c2
      refine opStep_value (v := .slice A pm C) (w' := wz) ?_ ⟨hGz.step (Below.refl _ _) rfl _, rfl, fun k _ _ _ h => h⟩
      simp only [execOp, evalS, e0]
      go_simp
    obtain _ | iz := iz
    · obtain rfl := Option.some.inj hiz
      have e0 : stz 82 = .slice SA sm SC := hAz 15 (haz { on := 15, ground := .data } (by simp) rfl) h99
      have e1 : stz 87 = .slice A pm C := hAz 20 (haz { on := 20, ground := .data } (by simp) rfl) h99
      refine opStep_fn 28 #[.tmp 82, .tmp 87] #[57, 22] rfl (enters_of Try.func28 (by kernel_rfl) rfl) #[.slice SA sm SC, .slice A pm C] (by simp [evalS, e0, e1]) ((hcall wz hGz.below).mono fun e w' h => ?_)
      obtain ⟨rfl, hw'⟩ := h
      exact ⟨_, rfl, hGz.step hw' rfl _, rfl, fun k _ _ _ h => h⟩
    obtain _ | iz := iz
    · obtain rfl := Option.some.inj hiz
      have e0 : stz 88 = .bool true := hAz 21 (haz { on := 21, ground := .data } (by simp) rfl) h99
      refine opStep_value (v := .bool false) (w' := wz) ?_ ⟨hGz.step (Below.refl _ _) rfl _, rfl, fun k _ _ _ h => h⟩
      simp only [execOp, evalS, e0]
      go_simp
    obtain _ | iz := iz
    · obtain rfl := Option.some.inj hiz
      have e0 : stz 80 = .bool true := hAz 13 (haz { on := 13, ground := .data } (by simp) rfl) h99
      have e1 : stz 89 = .bool false := hAz 22 (haz { on := 22, ground := .data } (by simp) rfl) h99
      refine opStep_value (v := .bool false) (w' := wz) ?_ ⟨hGz.step (Below.refl _ _) rfl _, rfl, fun k _ _ _ h => h⟩
      simp only [execOp, evalS, e0, e1]
      go_simp
    obtain _ | iz := iz
    · obtain rfl := Option.some.inj hiz
      have e0 : stz 76 = .bool false := hAz 9 (haz { on := 9, ground := .data } (by simp) rfl) h99
      have e1 : stz 90 = .bool false := hAz 23 (haz { on := 23, ground := .data } (by simp) rfl) h99
      refine opStep_value (v := .bool false) (w' := wz) ?_ ⟨hGz.step (Below.refl _ _) rfl _, rfl, fun k _ _ _ h => h⟩
      simp only [execOp, evalS, e0, e1]
      go_simp
    · exfalso
      have hlen : iz + 25 < 25 := (List.getElem?_eq_some_iff.1 hiz).1
      omega
  · intro Lz stz wz hGz hLz hall hvals
    have h99 : Lz 99 = false := by
      cases h : Lz 99 with
      | false => rfl
      | true => exact absurd (hLz 99 h) (by decide)
    exact hQ stz wz hGz.below (hvals 24 (hall 24 (by decide)) h99)
end Go.Proofs.Ytjjggefmmeminab
