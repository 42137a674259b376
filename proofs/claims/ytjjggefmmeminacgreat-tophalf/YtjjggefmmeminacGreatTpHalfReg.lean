import Derived.Test.YtjjggefmmeminacGreatJRc
import Derived.Test.YtjjggefmmeminacGreatGrMem
/-
  A region of stitchtop.TopHalf that draws its order: a thing is taken out of the first service.
-/
namespace Go.Proofs.YtjjggefmmeminacGreat
open Go.RowKit Go.Sort Go.PlainAid

/-- TopHalf: 'l[0].Things = append(append([]api.Thing{}, l[0].Things[:gone]...), l[0].Things[gone+1:]...)'. -/
def halfOutOps : List Oper := [
  { dst := some 28, op := Op.move (Operand.tmp 5), type := 22, pos := "top.go:143", after := #[], guard := none },
   { dst := some 29, op := Op.buildSlice 38 0 #[], type := 38, pos := "top.go:143", after := #[], guard := none },
   { dst := some 30, op := Op.move (Operand.tmp 5), type := 22, pos := "top.go:143", after := #[], guard := none },
   { dst := some 31, op := Op.indexAddr 22 (Operand.tmp 30) (Operand.const (Value.int IntKind.i64 0)), type := 0, pos := "top.go:143", after := #[{ on := 2, ground := Ground.data }], guard := none },
   { dst := some 32, op := Op.fieldAddr 40 (Operand.tmp 31) 2, type := 0, pos := "top.go:143", after := #[{ on := 3, ground := Ground.data }], guard := none },
   { dst := some 33, op := Op.load 38 (Operand.tmp 32), type := 38, pos := "top.go:143", after := #[{ on := 4, ground := Ground.data }], guard := none },
   { dst := some 34, op := Op.move (Operand.tmp 1), type := 3, pos := "top.go:143", after := #[], guard := none },
   { dst := some 35, op := Op.slice 38 (Operand.tmp 33) none (some (Operand.tmp 34)) none, type := 38, pos := "top.go:143", after := #[{ on := 5, ground := Ground.data }, { on := 6, ground := Ground.data }], guard := none },
   { dst := some 36, op := Op.call { callee := Callee.builtin Builtin.append, args := #[Operand.tmp 29, Operand.tmp 35], argTypes := #[38, 38] }, type := 38, pos := "top.go:143", after := #[{ on := 1, ground := Ground.data }, { on := 7, ground := Ground.data }], guard := none },
   { dst := some 37, op := Op.move (Operand.tmp 5), type := 22, pos := "top.go:143", after := #[], guard := none },
   { dst := some 38, op := Op.indexAddr 22 (Operand.tmp 37) (Operand.const (Value.int IntKind.i64 0)), type := 0, pos := "top.go:143", after := #[{ on := 9, ground := Ground.data }], guard := none },
   { dst := some 39, op := Op.fieldAddr 40 (Operand.tmp 38) 2, type := 0, pos := "top.go:143", after := #[{ on := 10, ground := Ground.data }], guard := none },
   { dst := some 40, op := Op.load 38 (Operand.tmp 39), type := 38, pos := "top.go:143", after := #[{ on := 11, ground := Ground.data }], guard := none },
   { dst := some 41, op := Op.move (Operand.tmp 1), type := 3, pos := "top.go:143", after := #[], guard := none },
   { dst := some 42, op := Op.binOp BinOp.add 3 (Operand.tmp 41) (Operand.const (Value.int IntKind.i64 1)) 3, type := 3, pos := "top.go:143", after := #[{ on := 13, ground := Ground.data }], guard := none },
   { dst := some 43, op := Op.slice 38 (Operand.tmp 40) (some (Operand.tmp 42)) none none, type := 38, pos := "top.go:143", after := #[{ on := 12, ground := Ground.data }, { on := 14, ground := Ground.data }], guard := none },
   { dst := some 44, op := Op.call { callee := Callee.builtin Builtin.append, args := #[Operand.tmp 36, Operand.tmp 43], argTypes := #[38, 38] }, type := 38, pos := "top.go:143", after := #[{ on := 8, ground := Ground.data }, { on := 15, ground := Ground.data }, { on := 8, ground := Ground.chain }], guard := none },
   { dst := some 45, op := Op.indexAddr 22 (Operand.tmp 28) (Operand.const (Value.int IntKind.i64 0)), type := 0, pos := "top.go:143", after := #[{ on := 0, ground := Ground.data }, { on := 0, ground := Ground.phase }, { on := 1, ground := Ground.phase }, { on := 2, ground := Ground.phase }, { on := 3, ground := Ground.phase }, { on := 4, ground := Ground.phase }, { on := 5, ground := Ground.phase }, { on := 6, ground := Ground.phase }, { on := 7, ground := Ground.phase }, { on := 8, ground := Ground.phase }, { on := 9, ground := Ground.phase }, { on := 10, ground := Ground.phase }, { on := 11, ground := Ground.phase }, { on := 12, ground := Ground.phase }, { on := 13, ground := Ground.phase }, { on := 14, ground := Ground.phase }, { on := 15, ground := Ground.phase }, { on := 16, ground := Ground.phase }], guard := none },
   { dst := some 46, op := Op.fieldAddr 40 (Operand.tmp 45) 2, type := 0, pos := "top.go:143", after := #[{ on := 17, ground := Ground.data }, { on := 0, ground := Ground.phase }, { on := 1, ground := Ground.phase }, { on := 2, ground := Ground.phase }, { on := 3, ground := Ground.phase }, { on := 4, ground := Ground.phase }, { on := 5, ground := Ground.phase }, { on := 6, ground := Ground.phase }, { on := 7, ground := Ground.phase }, { on := 8, ground := Ground.phase }, { on := 9, ground := Ground.phase }, { on := 10, ground := Ground.phase }, { on := 11, ground := Ground.phase }, { on := 12, ground := Ground.phase }, { on := 13, ground := Ground.phase }, { on := 14, ground := Ground.phase }, { on := 15, ground := Ground.phase }, { on := 16, ground := Ground.phase }], guard := none },
   { dst := none, op := Op.store 38 (Operand.tmp 46) (Operand.tmp 44), type := 0, pos := "top.go:143", after := #[{ on := 18, ground := Ground.data }, { on := 16, ground := Ground.data }, { on := 16, ground := Ground.chain }, { on := 0, ground := Ground.phase }, { on := 1, ground := Ground.phase }, { on := 2, ground := Ground.phase }, { on := 3, ground := Ground.phase }, { on := 4, ground := Ground.phase }, { on := 5, ground := Ground.phase }, { on := 6, ground := Ground.phase }, { on := 7, ground := Ground.phase }, { on := 8, ground := Ground.phase }, { on := 9, ground := Ground.phase }, { on := 10, ground := Ground.phase }, { on := 11, ground := Ground.phase }, { on := 12, ground := Ground.phase }, { on := 13, ground := Ground.phase }, { on := 14, ground := Ground.phase }, { on := 15, ground := Ground.phase }, { on := 16, ground := Ground.phase }], guard := none }]
set_option maxRecDepth 100000 in
set_option maxHeartbeats 4000000 in
theorem halfOut {Q : Exit → Act → World → Prop} {a0 : Act} {w5 : World} (P : Nat → (Nat → Value) → World → Prop) {lb g n c k : Nat} {tl : Value}
    (hsz : [28, 29, 30, 31, 32, 33, 34, 35, 36, 37, 38, 39, 40, 41, 42, 43, 44, 45, 46].all (fun d => decide (d < a0.tmps.size)) = true)
    (s5 : slots a0 5 = .slice (some ⟨lb, 0, none⟩) 2 2) (s1 : slots a0 1 = .int .i64 (k : Int)) (hwr : IntKind.i64.wrap ((k : Int) + 1) = (k : Int) + 1)
    (hsl : ∀ w, (Instr.sliceAt 38 (.slice (some ⟨g, 0, none⟩) n c) none (some (.int .i64 (k : Int))) none).run Tryz.prog w = .ok (.slice (some ⟨g, 0, none⟩) k c) w) (htl : ∀ w, (Instr.sliceAt 38 (.slice (some ⟨g, 0, none⟩) n c) (some (.int .i64 ((k : Int) + 1))) none none).run Tryz.prog w = .ok tl w)
    (hP0 : ∀ x, P 0 x w5.drew)
    (hSt : ∀ j x w, j < 4 → P j x w → w.cell? ⟨lb, 2, none⟩ = some (.slice (some ⟨g, 0, none⟩) n c))
    (he0 : ∀ x w, P 0 x w → ∃ v w', (Instr.buildSlice 38 0 #[]).run Tryz.prog w = .ok v w' ∧ ∀ x', x' 0 = v → (∀ i, i ≠ 0 → x' i = x i) → P 1 x' w')
    (he1 : ∀ x w, P 1 x w → ∀ ty, ∃ v w', (Builtin.append_ #[38, 38] ty #[x 0, .slice (some ⟨g, 0, none⟩) k c]).run Tryz.prog w = .ok v w' ∧ (∀ x', x' 1 = v → (∀ i, i ≠ 1 → x' i = x i) → P 2 x' w'))
    (he2 : ∀ x w, P 2 x w → ∀ ty, ∃ v w', (Builtin.append_ #[38, 38] ty #[x 1, tl]).run Tryz.prog w = .ok v w' ∧ (∀ x', x' 2 = v → (∀ i, i ≠ 2 → x' i = x i) → P 3 x' w'))
    (he3 : ∀ x w, P 3 x w → ∃ va vn vc u, x 2 = .slice va vn vc ∧ w.cell? ⟨lb, 2, none⟩ = some u ∧ w.frozen? ⟨lb, 2, none⟩ = false ∧ P 4 x (w.setCell ⟨lb, 2, none⟩ (x 2)))
    (hQ : ∀ s w', P 4 (fun i => s ([29, 36, 44, 0].getD i 0)) w' → Q .normal (putAll a0 s [28, 29, 30, 31, 32, 33, 34, 35, 36, 37, 38, 39, 40, 41, 42, 43, 44, 45, 46]) w') :
    (Code.region 6 halfOutOps.toArray true).wp Tryz.prog Q a0 w5 := by
  refine wp_region_as (by kernel_rfl) (by kernel_rfl) [28, 29, 30, 31, 32, 33, 34, 35, 36, 37, 38, 39, 40, 41, 42, 43, 44, 45, 46] (by kernel_rfl) hsz (by kernel_rfl) (fun _ => 99) (asV [1, 8, 16, 19] [.slice (some ⟨lb, 0, none⟩) 2 2, undef, .slice (some ⟨lb, 0, none⟩) 2 2, .pointer (some ⟨lb, 0, none⟩), .pointer (some ⟨lb, 2, none⟩), .slice (some ⟨g, 0, none⟩) n c, .int .i64 (k : Int), .slice (some ⟨g, 0, none⟩) k c, undef, .slice (some ⟨lb, 0, none⟩) 2 2, .pointer (some ⟨lb, 0, none⟩), .pointer (some ⟨lb, 2, none⟩), .slice (some ⟨g, 0, none⟩) n c, .int .i64 (k : Int), .int .i64 ((k : Int) + 1), tl, undef, .pointer (some ⟨lb, 0, none⟩), .pointer (some ⟨lb, 2, none⟩), undef]) (chG [1, 8, 16, 19] [29, 36, 44, 0] P) (chG.start (hP0 _)) ?_ ?_
  · intro Lz stz wz iz oz hGz hLz hcz hAz hFz hiz hlz haz
    have h99 : Lz 99 = false := by
      cases h : Lz 99 with
      | false => rfl
      | true => exact absurd (hLz 99 h) (by decide)
    obtain _ | iz := iz
    · obtain rfl := Option.some.inj hiz
      have e0 : stz 5 = .slice (some ⟨lb, 0, none⟩) 2 2 := (hFz 5 (by decide)).trans s5
      refine opStep_value (v := .slice (some ⟨lb, 0, none⟩) 2 2) (w' := wz) ?_ ⟨hGz.read rfl rfl _, rfl, fun k _ _ _ h => h⟩
      simp only [execOp, evalS, e0]
      go_simp
    obtain _ | iz := iz
    · obtain rfl := Option.some.inj hiz
      have t1 : Lz 8 = false := L_not (fun h => hcz 8 _ h rfl { on := 1, ground := .data } (by simp) rfl) hlz
      have t2 : Lz 16 = false := L_not (fun h => hcz 16 _ h rfl { on := 8, ground := .data } (by simp) rfl) (L_not (fun h => hcz 8 _ h rfl { on := 1, ground := .data } (by simp) rfl) hlz)
      have t3 : Lz 19 = false := L_not (fun h => hcz 19 _ h rfl { on := 1, ground := .phase } (by simp) rfl) hlz
      have hst : stg [1, 8, 16, 19] Lz = 0 := by simp [stg, hlz, t1, t2, t3]
      have hPj : P 0 (fun i => stz ([29, 36, 44, 0].getD i 0)) wz := by
        have h := hGz
        unfold chG at h
        rw [hst] at h
        exact h
      have agree0 : ∀ i, i ≠ 0 → ([29, 36, 44, 0] : List Nat).getD i 0 ≠ 29 := fun i hi => by
        rcases i with _ | _ | _ | _ | i <;> simp at hi ⊢
      obtain ⟨v, w1, hr, hp⟩ := he0 _ wz hPj
      refine opStep_value (v := v) (w' := w1) ?_ ⟨chG.eff (by decide) (by decide) hlz hst (hp _ updS_yes (fun i hi => updS_no (agree0 i hi))), trivial, fun k _ _ _ h => h⟩
      simp only [execOp, List.map_toArray, List.map_nil]
      simp [hr, Result.andThen]
    obtain _ | iz := iz
    · obtain rfl := Option.some.inj hiz
      have e0 : stz 5 = .slice (some ⟨lb, 0, none⟩) 2 2 := (hFz 5 (by decide)).trans s5
      refine opStep_value (v := .slice (some ⟨lb, 0, none⟩) 2 2) (w' := wz) ?_ ⟨hGz.read rfl rfl _, rfl, fun k _ _ _ h => h⟩
      simp only [execOp, evalS, e0]
      go_simp
    obtain _ | iz := iz
    · obtain rfl := Option.some.inj hiz
      have e0 : stz 30 = .slice (some ⟨lb, 0, none⟩) 2 2 := hAz 2 (haz { on := 2, ground := .data } (by simp) rfl) h99
      refine opStep_value (v := .pointer (some ⟨lb, 0, none⟩)) (w' := wz) ?_ ⟨hGz.read rfl rfl _, rfl, fun k _ _ _ h => h⟩
      simp only [execOp, evalS, e0]
      go_simp
    obtain _ | iz := iz
    · obtain rfl := Option.some.inj hiz
      have e0 : stz 31 = .pointer (some ⟨lb, 0, none⟩) := hAz 3 (haz { on := 3, ground := .data } (by simp) rfl) h99
      refine opStep_value (v := .pointer (some ⟨lb, 2, none⟩)) (w' := wz) ?_ ⟨hGz.read rfl rfl _, rfl, fun k _ _ _ h => h⟩
      simp only [execOp, evalS, e0]
      go_simp
    obtain _ | iz := iz
    · obtain rfl := Option.some.inj hiz
      have e0 : stz 32 = .pointer (some ⟨lb, 2, none⟩) := hAz 4 (haz { on := 4, ground := .data } (by simp) rfl) h99
      have hm : Lz 19 = false := L_not (fun h => hcz 19 _ h rfl { on := 5, ground := .phase } (by simp) rfl) hlz
      obtain z0 := hSt _ _ _ (stg_lt (E := [1, 8, 16, 19]) (by simp) hm) hGz
      refine opStep_value (v := .slice (some ⟨g, 0, none⟩) n c) (w' := wz) ?_ ⟨hGz.read rfl rfl _, rfl, fun k _ _ _ h => h⟩
      simp only [execOp, evalS, e0]
      go_simp
    obtain _ | iz := iz
    · obtain rfl := Option.some.inj hiz
      have e0 : stz 1 = .int .i64 (k : Int) := (hFz 1 (by decide)).trans s1
      refine opStep_value (v := .int .i64 (k : Int)) (w' := wz) ?_ ⟨hGz.read rfl rfl _, rfl, fun k _ _ _ h => h⟩
      simp only [execOp, evalS, e0]
      go_simp
    obtain _ | iz := iz
    · obtain rfl := Option.some.inj hiz
      have e0 : stz 33 = .slice (some ⟨g, 0, none⟩) n c := hAz 5 (haz { on := 5, ground := .data } (by simp) rfl) h99
      have e1 : stz 34 = .int .i64 (k : Int) := hAz 6 (haz { on := 6, ground := .data } (by simp) rfl) h99
      refine opStep_value (v := .slice (some ⟨g, 0, none⟩) k c) (w' := wz) ?_ ⟨hGz.read rfl rfl _, rfl, fun k _ _ _ h => h⟩
      simp only [execOp, Option.map_some, Option.map_none, evalS, e0, e1]
      simp only [Sem.run_bind, Sem.run_pure, hsl wz, Result.andThen_ok]
    obtain _ | iz := iz
    · obtain rfl := Option.some.inj hiz
      have t0 : Lz 1 = true := haz { on := 1, ground := .data } (by simp) rfl
      have t2 : Lz 16 = false := L_not (fun h => hcz 16 _ h rfl { on := 8, ground := .data } (by simp) rfl) hlz
      have t3 : Lz 19 = false := L_not (fun h => hcz 19 _ h rfl { on := 8, ground := .phase } (by simp) rfl) hlz
      have hst : stg [1, 8, 16, 19] Lz = 1 := by simp [stg, t0, hlz, t2, t3]
      have hPj : P 1 (fun i => stz ([29, 36, 44, 0].getD i 0)) wz := by
        have h := hGz
        unfold chG at h
        rw [hst] at h
        exact h
      have e1 : stz 35 = .slice (some ⟨g, 0, none⟩) k c := hAz 7 (haz { on := 7, ground := .data } (by simp) rfl) h99
      have agree1 : ∀ i, i ≠ 1 → ([29, 36, 44, 0] : List Nat).getD i 0 ≠ 36 := fun i hi => by
        rcases i with _ | _ | _ | _ | i <;> simp at hi ⊢
      obtain ⟨v, w', hr, hp⟩ := he1 _ wz hPj 38
      replace hr : (Builtin.append_ #[38, 38] 38 #[stz 29, .slice (some ⟨g, 0, none⟩) k c]).run Tryz.prog wz = .ok v w' := hr
      refine opStep_value (v := v) (w' := w') ?_ ⟨chG.eff (by decide) (by decide) hlz hst (hp _ updS_yes (fun i hi => updS_no (agree1 i hi))), trivial, fun k _ _ _ h => h⟩
      simp only [execOp, resolve, invoke, builtin, Sem.run_bind, Sem.run_pure, Result.andThen_ok, List.map_toArray, List.map_cons, List.map_nil, evalS, e1]
      first | (rw [hr]; rfl) | (simp [hr, Result.andThen])
    obtain _ | iz := iz
    · obtain rfl := Option.some.inj hiz
      have e0 : stz 5 = .slice (some ⟨lb, 0, none⟩) 2 2 := (hFz 5 (by decide)).trans s5
      refine opStep_value (v := .slice (some ⟨lb, 0, none⟩) 2 2) (w' := wz) ?_ ⟨hGz.read rfl rfl _, rfl, fun k _ _ _ h => h⟩
      simp only [execOp, evalS, e0]
      go_simp
    obtain _ | iz := iz
    · obtain rfl := Option.some.inj hiz
      have e0 : stz 37 = .slice (some ⟨lb, 0, none⟩) 2 2 := hAz 9 (haz { on := 9, ground := .data } (by simp) rfl) h99
      refine opStep_value (v := .pointer (some ⟨lb, 0, none⟩)) (w' := wz) ?_ ⟨hGz.read rfl rfl _, rfl, fun k _ _ _ h => h⟩
      simp only [execOp, evalS, e0]
      go_simp
    obtain _ | iz := iz
    · obtain rfl := Option.some.inj hiz
      have e0 : stz 38 = .pointer (some ⟨lb, 0, none⟩) := hAz 10 (haz { on := 10, ground := .data } (by simp) rfl) h99
      refine opStep_value (v := .pointer (some ⟨lb, 2, none⟩)) (w' := wz) ?_ ⟨hGz.read rfl rfl _, rfl, fun k _ _ _ h => h⟩
      simp only [execOp, evalS, e0]
      go_simp
    obtain _ | iz := iz
    · obtain rfl := Option.some.inj hiz
      have e0 : stz 39 = .pointer (some ⟨lb, 2, none⟩) := hAz 11 (haz { on := 11, ground := .data } (by simp) rfl) h99
      have hm : Lz 19 = false := L_not (fun h => hcz 19 _ h rfl { on := 12, ground := .phase } (by simp) rfl) hlz
      obtain z0 := hSt _ _ _ (stg_lt (E := [1, 8, 16, 19]) (by simp) hm) hGz
      refine opStep_value (v := .slice (some ⟨g, 0, none⟩) n c) (w' := wz) ?_ ⟨hGz.read rfl rfl _, rfl, fun k _ _ _ h => h⟩
      simp only [execOp, evalS, e0]
      go_simp
    obtain _ | iz := iz
    · obtain rfl := Option.some.inj hiz
      have e0 : stz 1 = .int .i64 (k : Int) := (hFz 1 (by decide)).trans s1
      refine opStep_value (v := .int .i64 (k : Int)) (w' := wz) ?_ ⟨hGz.read rfl rfl _, rfl, fun k _ _ _ h => h⟩
      simp only [execOp, evalS, e0]
      go_simp
    obtain _ | iz := iz
    · obtain rfl := Option.some.inj hiz
      have e0 : stz 41 = .int .i64 (k : Int) := hAz 13 (haz { on := 13, ground := .data } (by simp) rfl) h99
      refine opStep_value (v := .int .i64 ((k : Int) + 1)) (w' := wz) ?_ ⟨hGz.read rfl rfl _, rfl, fun k _ _ _ h => h⟩
      simp only [execOp, evalS, e0]
      go_simp
    obtain _ | iz := iz
    · obtain rfl := Option.some.inj hiz
      have e0 : stz 40 = .slice (some ⟨g, 0, none⟩) n c := hAz 12 (haz { on := 12, ground := .data } (by simp) rfl) h99
      have e1 : stz 42 = .int .i64 ((k : Int) + 1) := hAz 14 (haz { on := 14, ground := .data } (by simp) rfl) h99
      refine opStep_value (v := tl) (w' := wz) ?_ ⟨hGz.read rfl rfl _, rfl, fun k _ _ _ h => h⟩
      simp only [execOp, Option.map_some, Option.map_none, evalS, e0, e1]
      simp only [Sem.run_bind, Sem.run_pure, htl wz, Result.andThen_ok]
    obtain _ | iz := iz
    · obtain rfl := Option.some.inj hiz
      have t0 : Lz 1 = true := hcz 8 _ (haz { on := 8, ground := .data } (by simp) rfl) rfl { on := 1, ground := .data } (by simp) rfl
      have t1 : Lz 8 = true := haz { on := 8, ground := .data } (by simp) rfl
      have t3 : Lz 19 = false := L_not (fun h => hcz 19 _ h rfl { on := 16, ground := .data } (by simp) rfl) hlz
      have hst : stg [1, 8, 16, 19] Lz = 2 := by simp [stg, t0, t1, hlz, t3]
      have hPj : P 2 (fun i => stz ([29, 36, 44, 0].getD i 0)) wz := by
        have h := hGz
        unfold chG at h
        rw [hst] at h
        exact h
      have e1 : stz 43 = tl := hAz 15 (haz { on := 15, ground := .data } (by simp) rfl) h99
      have agree2 : ∀ i, i ≠ 2 → ([29, 36, 44, 0] : List Nat).getD i 0 ≠ 44 := fun i hi => by
        rcases i with _ | _ | _ | _ | i <;> simp at hi ⊢
      obtain ⟨v, w', hr, hp⟩ := he2 _ wz hPj 38
      replace hr : (Builtin.append_ #[38, 38] 38 #[stz 36, tl]).run Tryz.prog wz = .ok v w' := hr
      refine opStep_value (v := v) (w' := w') ?_ ⟨chG.eff (by decide) (by decide) hlz hst (hp _ updS_yes (fun i hi => updS_no (agree2 i hi))), trivial, fun k _ _ _ h => h⟩
      simp only [execOp, resolve, invoke, builtin, Sem.run_bind, Sem.run_pure, Result.andThen_ok, List.map_toArray, List.map_cons, List.map_nil, evalS, e1]
      first | (rw [hr]; rfl) | (simp [hr, Result.andThen])
    obtain _ | iz := iz
    · obtain rfl := Option.some.inj hiz
      have e0 : stz 28 = .slice (some ⟨lb, 0, none⟩) 2 2 := hAz 0 (haz { on := 0, ground := .data } (by simp) rfl) h99
      refine opStep_value (v := .pointer (some ⟨lb, 0, none⟩)) (w' := wz) ?_ ⟨hGz.read rfl rfl _, rfl, fun k _ _ _ h => h⟩
      simp only [execOp, evalS, e0]
      go_simp
    obtain _ | iz := iz
    · obtain rfl := Option.some.inj hiz
      have e0 : stz 45 = .pointer (some ⟨lb, 0, none⟩) := hAz 17 (haz { on := 17, ground := .data } (by simp) rfl) h99
      refine opStep_value (v := .pointer (some ⟨lb, 2, none⟩)) (w' := wz) ?_ ⟨hGz.read rfl rfl _, rfl, fun k _ _ _ h => h⟩
      simp only [execOp, evalS, e0]
      go_simp
    obtain _ | iz := iz
    · obtain rfl := Option.some.inj hiz
      have t0 : Lz 1 = true := haz { on := 1, ground := .phase } (by simp) rfl
      have t1 : Lz 8 = true := haz { on := 8, ground := .phase } (by simp) rfl
      have t2 : Lz 16 = true := haz { on := 16, ground := .data } (by simp) rfl
      have hst : stg [1, 8, 16, 19] Lz = 3 := by simp [stg, t0, t1, t2, hlz]
      have hPj : P 3 (fun i => stz ([29, 36, 44, 0].getD i 0)) wz := by
        have h := hGz
        unfold chG at h
        rw [hst] at h
        exact h
      have e0 : stz 46 = .pointer (some ⟨lb, 2, none⟩) := hAz 18 (haz { on := 18, ground := .data } (by simp) rfl) h99
      obtain ⟨va, vn, vc, u, hx9, hu, hfz, hp⟩ := he3 _ wz hPj
      have ex : stz 44 = .slice va vn vc := hx9
      replace hp : P 4 _ (wz.setCell ⟨lb, 2, none⟩ (stz 44)) := hp
      rw [ex] at hp
      refine opStep_skip (w' := _) ?_ ⟨chG.eff (by decide) (by decide) hlz hst hp, trivial, fun k _ _ _ h => h⟩
      simp only [execOp, evalS, e0, ex]
      go_simp
    · exfalso
      have hlen : iz + 20 < 20 := (List.getElem?_eq_some_iff.1 hiz).1
      omega
  · intro Lz stz wz hGz _ hall _
    have h := hGz
    unfold chG at h
    rw [stg_all (fun e he => by simp at he; rcases he with rfl | rfl | rfl | rfl <;> exact hall _ (by decide))] at h
    exact hQ stz wz h

end Go.Proofs.YtjjggefmmeminacGreat
