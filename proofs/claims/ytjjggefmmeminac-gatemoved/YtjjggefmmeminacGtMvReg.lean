import Derived.Test.YtjjggefmmeminacJRc
import Derived.Test.YtjjggefmmeminacGrMem
/-
  Four regions of stitchlaw7.GateMoved that draw their order: one more type, and one more thing, in each half.
-/
namespace Go.Proofs.Ytjjggefmmeminac
open Go.RowKit Go.Sort Go.PlainAid

/-- 'x.Types = append(x.Types, ..)'. -/
def movTxOps : List Oper := [
  { dst := some 89, op := Op.fieldAddr 47 (Operand.tmp 12) 0, type := 0, pos := "law.go:140", after := #[], guard := none },
   { dst := some 90, op := Op.load 43 (Operand.tmp 89), type := 43, pos := "law.go:140", after := #[{ on := 0, ground := Ground.data }], guard := none },
   { dst := some 91, op := Op.fieldAddr 50 (Operand.tmp 16) 0, type := 0, pos := "law.go:140", after := #[], guard := none },
   { dst := some 92, op := Op.load 9 (Operand.tmp 91), type := 9, pos := "law.go:140", after := #[{ on := 2, ground := Ground.data }], guard := none },
   { dst := some 93, op := Op.fieldAddr 50 (Operand.tmp 16) 1, type := 0, pos := "law.go:140", after := #[], guard := none },
   { dst := some 94, op := Op.load 48 (Operand.tmp 93), type := 48, pos := "law.go:140", after := #[{ on := 4, ground := Ground.data }], guard := none },
   { dst := some 95, op := Op.move (Operand.tmp 17), type := 3, pos := "law.go:140", after := #[], guard := none },
   { dst := some 96, op := Op.slice 48 (Operand.tmp 94) none (some (Operand.tmp 95)) none, type := 48, pos := "law.go:140", after := #[{ on := 5, ground := Ground.data }, { on := 6, ground := Ground.data }], guard := none },
   { dst := some 97, op := Op.build 50 #[(0, Operand.tmp 92), (1, Operand.tmp 96)], type := 50, pos := "law.go:140", after := #[{ on := 3, ground := Ground.data }, { on := 7, ground := Ground.data }], guard := none },
   { dst := some 98, op := Op.buildSlice 43 1 #[(0, Operand.tmp 97)], type := 43, pos := "law.go:140", after := #[{ on := 8, ground := Ground.data }], guard := none },
   { dst := some 99, op := Op.call { callee := Callee.builtin Builtin.append, args := #[Operand.tmp 90, Operand.tmp 98], argTypes := #[43, 43] }, type := 43, pos := "law.go:140", after := #[{ on := 1, ground := Ground.data }, { on := 9, ground := Ground.data }], guard := none },
   { dst := some 100, op := Op.fieldAddr 47 (Operand.tmp 12) 0, type := 0, pos := "law.go:140", after := #[{ on := 0, ground := Ground.phase }, { on := 1, ground := Ground.phase }, { on := 2, ground := Ground.phase }, { on := 3, ground := Ground.phase }, { on := 4, ground := Ground.phase }, { on := 5, ground := Ground.phase }, { on := 6, ground := Ground.phase }, { on := 7, ground := Ground.phase }, { on := 8, ground := Ground.phase }, { on := 9, ground := Ground.phase }, { on := 10, ground := Ground.phase }], guard := none },
   { dst := none, op := Op.store 43 (Operand.tmp 100) (Operand.tmp 99), type := 0, pos := "law.go:140", after := #[{ on := 11, ground := Ground.data }, { on := 10, ground := Ground.data }, { on := 10, ground := Ground.chain }, { on := 0, ground := Ground.phase }, { on := 1, ground := Ground.phase }, { on := 2, ground := Ground.phase }, { on := 3, ground := Ground.phase }, { on := 4, ground := Ground.phase }, { on := 5, ground := Ground.phase }, { on := 6, ground := Ground.phase }, { on := 7, ground := Ground.phase }, { on := 8, ground := Ground.phase }, { on := 9, ground := Ground.phase }, { on := 10, ground := Ground.phase }], guard := none }]
set_option maxRecDepth 100000 in
set_option maxHeartbeats 4000000 in
theorem movTx {Q : Exit → Act → World → Prop} {a0 : Act} {w5 : World} (P : Nat → (Nat → Value) → World → Prop) {bs bt rn rc n c k sn sc : Nat} {ra fa sa : Option Addr} {nm : ByteArray}
    (hsz : [89, 90, 91, 92, 93, 94, 95, 96, 97, 98, 99, 100].all (fun d => decide (d < a0.tmps.size)) = true)
    (sb : slots a0 12 = .pointer (some ⟨bs, 0, none⟩)) (st : slots a0 16 = .pointer (some ⟨bt, 0, none⟩)) (sk : slots a0 17 = .int .i64 (k : Int))
    (hsl : ∀ w, (Instr.sliceAt 48 (.slice fa n c) none (some (.int .i64 (k : Int))) none).run Try.prog w = .ok (.slice sa sn sc) w)
    (hP0 : ∀ x, P 0 x w5.drew)
    (hSt : ∀ j x w, j < 3 → P j x w → w.cell? ⟨bs, 0, none⟩ = some (.slice ra rn rc) ∧ w.cell? ⟨bt, 0, none⟩ = some (.string nm) ∧ w.cell? ⟨bt, 1, none⟩ = some (.slice fa n c))
    (he0 : ∀ x w, P 0 x w → ∀ x', x' 0 = .slice (some ⟨w.heap.size, 0, none⟩) 1 1 → (∀ i, i ≠ 0 → x' i = x i) → P 1 x' (w.alloc (.cells #[.string nm, .slice sa sn sc] 50)))
    (he1 : ∀ x w, P 1 x w → ∀ ty, ∃ v w', (Builtin.append_ #[43, 43] ty #[.slice ra rn rc, x 0]).run Try.prog w = .ok v w' ∧ (∀ x', x' 1 = v → (∀ i, i ≠ 1 → x' i = x i) → P 2 x' w'))
    (he2 : ∀ x w, P 2 x w → ∃ va vn vc u, x 1 = .slice va vn vc ∧ w.cell? ⟨bs, 0, none⟩ = some u ∧ w.frozen? ⟨bs, 0, none⟩ = false ∧ P 3 x (w.setCell ⟨bs, 0, none⟩ (x 1)))
    (hQ : ∀ s w', P 3 (fun i => s ([98, 99, 0].getD i 0)) w' → Q .normal (putAll a0 s [89, 90, 91, 92, 93, 94, 95, 96, 97, 98, 99, 100]) w') :
    (Code.region 16 movTxOps.toArray true).wp Try.prog Q a0 w5 := by
  refine wp_region_as (by kernel_rfl) (by kernel_rfl) [89, 90, 91, 92, 93, 94, 95, 96, 97, 98, 99, 100] (by kernel_rfl) hsz (by kernel_rfl) (fun _ => 99) (asV [9, 10, 12] [.pointer (some ⟨bs, 0, none⟩), .slice ra rn rc, .pointer (some ⟨bt, 0, none⟩), .string nm, .pointer (some ⟨bt, 1, none⟩), .slice fa n c, .int .i64 (k : Int), .slice sa sn sc, .agg #[.string nm, .slice sa sn sc], undef, undef, .pointer (some ⟨bs, 0, none⟩), undef]) (chG [9, 10, 12] [98, 99, 0] P) (chG.start (hP0 _)) ?_ ?_
  · intro Lz stz wz iz oz hGz hLz hcz hAz hFz hiz hlz haz
    have h99 : Lz 99 = false := by
      cases h : Lz 99 with
      | false => rfl
      | true => exact absurd (hLz 99 h) (by decide)
    obtain _ | iz := iz
    · obtain rfl := Option.some.inj hiz
      have e0 : stz 12 = .pointer (some ⟨bs, 0, none⟩) := (hFz 12 (by decide)).trans sb
      refine opStep_value (v := .pointer (some ⟨bs, 0, none⟩)) (w' := wz) ?_ ⟨hGz.read rfl rfl _, rfl, fun k _ _ _ h => h⟩
      simp only [execOp, evalS, e0]
      go_simp
    obtain _ | iz := iz
    · obtain rfl := Option.some.inj hiz
      have e0 : stz 89 = .pointer (some ⟨bs, 0, none⟩) := hAz 0 (haz { on := 0, ground := .data } (by simp) rfl) h99
      have hm : Lz 12 = false := L_not (fun h => hcz 12 _ h rfl { on := 1, ground := .phase } (by simp) rfl) hlz
      obtain ⟨z0, -, -⟩ := hSt _ _ _ (stg_lt (E := [9, 10, 12]) (by simp) hm) hGz
      refine opStep_value (v := .slice ra rn rc) (w' := wz) ?_ ⟨hGz.read rfl rfl _, rfl, fun k _ _ _ h => h⟩
      simp only [execOp, evalS, e0]
      go_simp
    obtain _ | iz := iz
    · obtain rfl := Option.some.inj hiz
      have e0 : stz 16 = .pointer (some ⟨bt, 0, none⟩) := (hFz 16 (by decide)).trans st
      refine opStep_value (v := .pointer (some ⟨bt, 0, none⟩)) (w' := wz) ?_ ⟨hGz.read rfl rfl _, rfl, fun k _ _ _ h => h⟩
      simp only [execOp, evalS, e0]
      go_simp
    obtain _ | iz := iz
    · obtain rfl := Option.some.inj hiz
      have e0 : stz 91 = .pointer (some ⟨bt, 0, none⟩) := hAz 2 (haz { on := 2, ground := .data } (by simp) rfl) h99
      have hm : Lz 12 = false := L_not (fun h => hcz 12 _ h rfl { on := 3, ground := .phase } (by simp) rfl) hlz
      obtain ⟨-, z1, -⟩ := hSt _ _ _ (stg_lt (E := [9, 10, 12]) (by simp) hm) hGz
      refine opStep_value (v := .string nm) (w' := wz) ?_ ⟨hGz.read rfl rfl _, rfl, fun k _ _ _ h => h⟩
      simp only [execOp, evalS, e0]
      go_simp
    obtain _ | iz := iz
    · obtain rfl := Option.some.inj hiz
      have e0 : stz 16 = .pointer (some ⟨bt, 0, none⟩) := (hFz 16 (by decide)).trans st
      refine opStep_value (v := .pointer (some ⟨bt, 1, none⟩)) (w' := wz) ?_ ⟨hGz.read rfl rfl _, rfl, fun k _ _ _ h => h⟩
      simp only [execOp, evalS, e0]
      go_simp
    obtain _ | iz := iz
    · obtain rfl := Option.some.inj hiz
      have e0 : stz 93 = .pointer (some ⟨bt, 1, none⟩) := hAz 4 (haz { on := 4, ground := .data } (by simp) rfl) h99
      have hm : Lz 12 = false := L_not (fun h => hcz 12 _ h rfl { on := 5, ground := .phase } (by simp) rfl) hlz
      obtain ⟨-, -, z2⟩ := hSt _ _ _ (stg_lt (E := [9, 10, 12]) (by simp) hm) hGz
      refine opStep_value (v := .slice fa n c) (w' := wz) ?_ ⟨hGz.read rfl rfl _, rfl, fun k _ _ _ h => h⟩
      simp only [execOp, evalS, e0]
      go_simp
    obtain _ | iz := iz
    · obtain rfl := Option.some.inj hiz
      have e0 : stz 17 = .int .i64 (k : Int) := (hFz 17 (by decide)).trans sk
      refine opStep_value (v := .int .i64 (k : Int)) (w' := wz) ?_ ⟨hGz.read rfl rfl _, rfl, fun k _ _ _ h => h⟩
      simp only [execOp, evalS, e0]
      go_simp
    obtain _ | iz := iz
    · obtain rfl := Option.some.inj hiz
      have e0 : stz 94 = .slice fa n c := hAz 5 (haz { on := 5, ground := .data } (by simp) rfl) h99
      have e1 : stz 95 = .int .i64 (k : Int) := hAz 6 (haz { on := 6, ground := .data } (by simp) rfl) h99
      refine opStep_value (v := .slice sa sn sc) (w' := wz) ?_ ⟨hGz.read rfl rfl _, rfl, fun k _ _ _ h => h⟩
      simp only [execOp, Option.map_some, Option.map_none, evalS, e0, e1]
      simp only [Sem.run_bind, Sem.run_pure, hsl wz, Result.andThen_ok]
    obtain _ | iz := iz
    · obtain rfl := Option.some.inj hiz
      have e0 : stz 92 = .string nm := hAz 3 (haz { on := 3, ground := .data } (by simp) rfl) h99
      have e1 : stz 96 = .slice sa sn sc := hAz 7 (haz { on := 7, ground := .data } (by simp) rfl) h99
      refine opStep_value (v := .agg #[.string nm, .slice sa sn sc]) (w' := wz) ?_ ⟨hGz.read rfl rfl _, rfl, fun k _ _ _ h => h⟩
      simp only [execOp, evalS]
      go_simp
    obtain _ | iz := iz
    · obtain rfl := Option.some.inj hiz
      have t1 : Lz 10 = false := L_not (fun h => hcz 10 _ h rfl { on := 9, ground := .data } (by simp) rfl) hlz
      have t2 : Lz 12 = false := L_not (fun h => hcz 12 _ h rfl { on := 9, ground := .phase } (by simp) rfl) hlz
      have hst : stg [9, 10, 12] Lz = 0 := by simp [stg, hlz, t1, t2]
      have hPj : P 0 (fun i => stz ([98, 99, 0].getD i 0)) wz := by
        have h := hGz
        unfold chG at h
        rw [hst] at h
        exact h
      have e0 : stz 97 = .agg #[.string nm, .slice sa sn sc] := hAz 8 (haz { on := 8, ground := .data } (by simp) rfl) h99
      have agree0 : ∀ i, i ≠ 0 → ([98, 99, 0] : List Nat).getD i 0 ≠ 98 := fun i hi => by
        rcases i with _ | _ | _ | i <;> simp at hi ⊢
      refine opStep_value (v := .slice (some ⟨wz.heap.size, 0, none⟩) 1 1) (w' := wz.alloc (.cells #[.string nm, .slice sa sn sc] 50)) ?_ ⟨chG.eff (by decide) (by decide) hlz hst (he0 _ wz hPj _ updS_yes (fun i hi => updS_no (agree0 i hi))), trivial, fun k _ _ _ h => h⟩
      simp only [execOp, List.map_toArray, List.map_cons, List.map_nil, evalS, e0]
      go_simp
    obtain _ | iz := iz
    · obtain rfl := Option.some.inj hiz
      have t0 : Lz 9 = true := haz { on := 9, ground := .data } (by simp) rfl
      have t2 : Lz 12 = false := L_not (fun h => hcz 12 _ h rfl { on := 10, ground := .data } (by simp) rfl) hlz
      have hst : stg [9, 10, 12] Lz = 1 := by simp [stg, t0, hlz, t2]
      have hPj : P 1 (fun i => stz ([98, 99, 0].getD i 0)) wz := by
        have h := hGz
        unfold chG at h
        rw [hst] at h
        exact h
      have e0 : stz 90 = .slice ra rn rc := hAz 1 (haz { on := 1, ground := .data } (by simp) rfl) h99
      have agree1 : ∀ i, i ≠ 1 → ([98, 99, 0] : List Nat).getD i 0 ≠ 99 := fun i hi => by
        rcases i with _ | _ | _ | i <;> simp at hi ⊢
      obtain ⟨v, w', hr, hp⟩ := he1 _ wz hPj 43
      replace hr : (Builtin.append_ #[43, 43] 43 #[.slice ra rn rc, stz 98]).run Try.prog wz = .ok v w' := hr
      refine opStep_value (v := v) (w' := w') ?_ ⟨chG.eff (by decide) (by decide) hlz hst (hp _ updS_yes (fun i hi => updS_no (agree1 i hi))), trivial, fun k _ _ _ h => h⟩
      simp only [execOp, resolve, invoke, builtin, Sem.run_bind, Sem.run_pure, Result.andThen_ok, List.map_toArray, List.map_cons, List.map_nil, evalS, e0]
      first | (rw [hr]; rfl) | (simp [hr, Result.andThen])
    obtain _ | iz := iz
    · obtain rfl := Option.some.inj hiz
      have e0 : stz 12 = .pointer (some ⟨bs, 0, none⟩) := (hFz 12 (by decide)).trans sb
      refine opStep_value (v := .pointer (some ⟨bs, 0, none⟩)) (w' := wz) ?_ ⟨hGz.read rfl rfl _, rfl, fun k _ _ _ h => h⟩
      simp only [execOp, evalS, e0]
      go_simp
    obtain _ | iz := iz
    · obtain rfl := Option.some.inj hiz
      have t0 : Lz 9 = true := haz { on := 9, ground := .phase } (by simp) rfl
      have t1 : Lz 10 = true := haz { on := 10, ground := .data } (by simp) rfl
      have hst : stg [9, 10, 12] Lz = 2 := by simp [stg, t0, t1, hlz]
      have hPj : P 2 (fun i => stz ([98, 99, 0].getD i 0)) wz := by
        have h := hGz
        unfold chG at h
        rw [hst] at h
        exact h
      have e0 : stz 100 = .pointer (some ⟨bs, 0, none⟩) := hAz 11 (haz { on := 11, ground := .data } (by simp) rfl) h99
      obtain ⟨va, vn, vc, u, hx9, hu, hfz, hp⟩ := he2 _ wz hPj
      have ex : stz 99 = .slice va vn vc := hx9
      replace hp : P 3 _ (wz.setCell ⟨bs, 0, none⟩ (stz 99)) := hp
      rw [ex] at hp
      refine opStep_skip (w' := _) ?_ ⟨chG.eff (by decide) (by decide) hlz hst hp, trivial, fun k _ _ _ h => h⟩
      simp only [execOp, evalS, e0, ex]
      go_simp
    · exfalso
      have hlen : iz + 13 < 13 := (List.getElem?_eq_some_iff.1 hiz).1
      omega
  · intro Lz stz wz hGz _ hall _
    have h := hGz
    unfold chG at h
    rw [stg_all (fun e he => by simp at he; rcases he with rfl | rfl | rfl <;> exact hall _ (by decide))] at h
    exact hQ stz wz h

/-- 'y.Types = append(y.Types, ..)'. -/
def movTyOps : List Oper := [
  { dst := some 101, op := Op.fieldAddr 47 (Operand.tmp 13) 0, type := 0, pos := "law.go:141", after := #[], guard := none },
   { dst := some 102, op := Op.load 43 (Operand.tmp 101), type := 43, pos := "law.go:141", after := #[{ on := 0, ground := Ground.data }], guard := none },
   { dst := some 103, op := Op.fieldAddr 50 (Operand.tmp 16) 0, type := 0, pos := "law.go:141", after := #[], guard := none },
   { dst := some 104, op := Op.load 9 (Operand.tmp 103), type := 9, pos := "law.go:141", after := #[{ on := 2, ground := Ground.data }], guard := none },
   { dst := some 105, op := Op.fieldAddr 50 (Operand.tmp 16) 1, type := 0, pos := "law.go:141", after := #[], guard := none },
   { dst := some 106, op := Op.load 48 (Operand.tmp 105), type := 48, pos := "law.go:141", after := #[{ on := 4, ground := Ground.data }], guard := none },
   { dst := some 107, op := Op.move (Operand.tmp 17), type := 3, pos := "law.go:141", after := #[], guard := none },
   { dst := some 108, op := Op.slice 48 (Operand.tmp 106) (some (Operand.tmp 107)) none none, type := 48, pos := "law.go:141", after := #[{ on := 5, ground := Ground.data }, { on := 6, ground := Ground.data }], guard := none },
   { dst := some 109, op := Op.build 50 #[(0, Operand.tmp 104), (1, Operand.tmp 108)], type := 50, pos := "law.go:141", after := #[{ on := 3, ground := Ground.data }, { on := 7, ground := Ground.data }], guard := none },
   { dst := some 110, op := Op.buildSlice 43 1 #[(0, Operand.tmp 109)], type := 43, pos := "law.go:141", after := #[{ on := 8, ground := Ground.data }], guard := none },
   { dst := some 111, op := Op.call { callee := Callee.builtin Builtin.append, args := #[Operand.tmp 102, Operand.tmp 110], argTypes := #[43, 43] }, type := 43, pos := "law.go:141", after := #[{ on := 1, ground := Ground.data }, { on := 9, ground := Ground.data }], guard := none },
   { dst := some 112, op := Op.fieldAddr 47 (Operand.tmp 13) 0, type := 0, pos := "law.go:141", after := #[{ on := 0, ground := Ground.phase }, { on := 1, ground := Ground.phase }, { on := 2, ground := Ground.phase }, { on := 3, ground := Ground.phase }, { on := 4, ground := Ground.phase }, { on := 5, ground := Ground.phase }, { on := 6, ground := Ground.phase }, { on := 7, ground := Ground.phase }, { on := 8, ground := Ground.phase }, { on := 9, ground := Ground.phase }, { on := 10, ground := Ground.phase }], guard := none },
   { dst := none, op := Op.store 43 (Operand.tmp 112) (Operand.tmp 111), type := 0, pos := "law.go:141", after := #[{ on := 11, ground := Ground.data }, { on := 10, ground := Ground.data }, { on := 10, ground := Ground.chain }, { on := 0, ground := Ground.phase }, { on := 1, ground := Ground.phase }, { on := 2, ground := Ground.phase }, { on := 3, ground := Ground.phase }, { on := 4, ground := Ground.phase }, { on := 5, ground := Ground.phase }, { on := 6, ground := Ground.phase }, { on := 7, ground := Ground.phase }, { on := 8, ground := Ground.phase }, { on := 9, ground := Ground.phase }, { on := 10, ground := Ground.phase }], guard := none }]
set_option maxRecDepth 100000 in
set_option maxHeartbeats 4000000 in
theorem movTy {Q : Exit → Act → World → Prop} {a0 : Act} {w5 : World} (P : Nat → (Nat → Value) → World → Prop) {bs bt rn rc n c k sn sc : Nat} {ra fa sa : Option Addr} {nm : ByteArray}
    (hsz : [101, 102, 103, 104, 105, 106, 107, 108, 109, 110, 111, 112].all (fun d => decide (d < a0.tmps.size)) = true)
    (sb : slots a0 13 = .pointer (some ⟨bs, 0, none⟩)) (st : slots a0 16 = .pointer (some ⟨bt, 0, none⟩)) (sk : slots a0 17 = .int .i64 (k : Int))
    (hsl : ∀ w, (Instr.sliceAt 48 (.slice fa n c) (some (.int .i64 (k : Int))) none none).run Try.prog w = .ok (.slice sa sn sc) w)
    (hP0 : ∀ x, P 0 x w5.drew)
    (hSt : ∀ j x w, j < 3 → P j x w → w.cell? ⟨bs, 0, none⟩ = some (.slice ra rn rc) ∧ w.cell? ⟨bt, 0, none⟩ = some (.string nm) ∧ w.cell? ⟨bt, 1, none⟩ = some (.slice fa n c))
    (he0 : ∀ x w, P 0 x w → ∀ x', x' 0 = .slice (some ⟨w.heap.size, 0, none⟩) 1 1 → (∀ i, i ≠ 0 → x' i = x i) → P 1 x' (w.alloc (.cells #[.string nm, .slice sa sn sc] 50)))
    (he1 : ∀ x w, P 1 x w → ∀ ty, ∃ v w', (Builtin.append_ #[43, 43] ty #[.slice ra rn rc, x 0]).run Try.prog w = .ok v w' ∧ (∀ x', x' 1 = v → (∀ i, i ≠ 1 → x' i = x i) → P 2 x' w'))
    (he2 : ∀ x w, P 2 x w → ∃ va vn vc u, x 1 = .slice va vn vc ∧ w.cell? ⟨bs, 0, none⟩ = some u ∧ w.frozen? ⟨bs, 0, none⟩ = false ∧ P 3 x (w.setCell ⟨bs, 0, none⟩ (x 1)))
    (hQ : ∀ s w', P 3 (fun i => s ([110, 111, 0].getD i 0)) w' → Q .normal (putAll a0 s [101, 102, 103, 104, 105, 106, 107, 108, 109, 110, 111, 112]) w') :
    (Code.region 17 movTyOps.toArray true).wp Try.prog Q a0 w5 := by
  refine wp_region_as (by kernel_rfl) (by kernel_rfl) [101, 102, 103, 104, 105, 106, 107, 108, 109, 110, 111, 112] (by kernel_rfl) hsz (by kernel_rfl) (fun _ => 99) (asV [9, 10, 12] [.pointer (some ⟨bs, 0, none⟩), .slice ra rn rc, .pointer (some ⟨bt, 0, none⟩), .string nm, .pointer (some ⟨bt, 1, none⟩), .slice fa n c, .int .i64 (k : Int), .slice sa sn sc, .agg #[.string nm, .slice sa sn sc], undef, undef, .pointer (some ⟨bs, 0, none⟩), undef]) (chG [9, 10, 12] [110, 111, 0] P) (chG.start (hP0 _)) ?_ ?_
  · intro Lz stz wz iz oz hGz hLz hcz hAz hFz hiz hlz haz
    have h99 : Lz 99 = false := by
      cases h : Lz 99 with
      | false => rfl
      | true => exact absurd (hLz 99 h) (by decide)
    obtain _ | iz := iz
    · obtain rfl := Option.some.inj hiz
      have e0 : stz 13 = .pointer (some ⟨bs, 0, none⟩) := (hFz 13 (by decide)).trans sb
      refine opStep_value (v := .pointer (some ⟨bs, 0, none⟩)) (w' := wz) ?_ ⟨hGz.read rfl rfl _, rfl, fun k _ _ _ h => h⟩
      simp only [execOp, evalS, e0]
      go_simp
    obtain _ | iz := iz
    · obtain rfl := Option.some.inj hiz
      have e0 : stz 101 = .pointer (some ⟨bs, 0, none⟩) := hAz 0 (haz { on := 0, ground := .data } (by simp) rfl) h99
      have hm : Lz 12 = false := L_not (fun h => hcz 12 _ h rfl { on := 1, ground := .phase } (by simp) rfl) hlz
      obtain ⟨z0, -, -⟩ := hSt _ _ _ (stg_lt (E := [9, 10, 12]) (by simp) hm) hGz
      refine opStep_value (v := .slice ra rn rc) (w' := wz) ?_ ⟨hGz.read rfl rfl _, rfl, fun k _ _ _ h => h⟩
      simp only [execOp, evalS, e0]
      go_simp
    obtain _ | iz := iz
    · obtain rfl := Option.some.inj hiz
      have e0 : stz 16 = .pointer (some ⟨bt, 0, none⟩) := (hFz 16 (by decide)).trans st
      refine opStep_value (v := .pointer (some ⟨bt, 0, none⟩)) (w' := wz) ?_ ⟨hGz.read rfl rfl _, rfl, fun k _ _ _ h => h⟩
      simp only [execOp, evalS, e0]
      go_simp
    obtain _ | iz := iz
    · obtain rfl := Option.some.inj hiz
      have e0 : stz 103 = .pointer (some ⟨bt, 0, none⟩) := hAz 2 (haz { on := 2, ground := .data } (by simp) rfl) h99
      have hm : Lz 12 = false := L_not (fun h => hcz 12 _ h rfl { on := 3, ground := .phase } (by simp) rfl) hlz
      obtain ⟨-, z1, -⟩ := hSt _ _ _ (stg_lt (E := [9, 10, 12]) (by simp) hm) hGz
      refine opStep_value (v := .string nm) (w' := wz) ?_ ⟨hGz.read rfl rfl _, rfl, fun k _ _ _ h => h⟩
      simp only [execOp, evalS, e0]
      go_simp
    obtain _ | iz := iz
    · obtain rfl := Option.some.inj hiz
      have e0 : stz 16 = .pointer (some ⟨bt, 0, none⟩) := (hFz 16 (by decide)).trans st
      refine opStep_value (v := .pointer (some ⟨bt, 1, none⟩)) (w' := wz) ?_ ⟨hGz.read rfl rfl _, rfl, fun k _ _ _ h => h⟩
      simp only [execOp, evalS, e0]
      go_simp
    obtain _ | iz := iz
    · obtain rfl := Option.some.inj hiz
      have e0 : stz 105 = .pointer (some ⟨bt, 1, none⟩) := hAz 4 (haz { on := 4, ground := .data } (by simp) rfl) h99
      have hm : Lz 12 = false := L_not (fun h => hcz 12 _ h rfl { on := 5, ground := .phase } (by simp) rfl) hlz
      obtain ⟨-, -, z2⟩ := hSt _ _ _ (stg_lt (E := [9, 10, 12]) (by simp) hm) hGz
      refine opStep_value (v := .slice fa n c) (w' := wz) ?_ ⟨hGz.read rfl rfl _, rfl, fun k _ _ _ h => h⟩
      simp only [execOp, evalS, e0]
      go_simp
    obtain _ | iz := iz
    · obtain rfl := Option.some.inj hiz
      have e0 : stz 17 = .int .i64 (k : Int) := (hFz 17 (by decide)).trans sk
      refine opStep_value (v := .int .i64 (k : Int)) (w' := wz) ?_ ⟨hGz.read rfl rfl _, rfl, fun k _ _ _ h => h⟩
      simp only [execOp, evalS, e0]
      go_simp
    obtain _ | iz := iz
    · obtain rfl := Option.some.inj hiz
      have e0 : stz 106 = .slice fa n c := hAz 5 (haz { on := 5, ground := .data } (by simp) rfl) h99
      have e1 : stz 107 = .int .i64 (k : Int) := hAz 6 (haz { on := 6, ground := .data } (by simp) rfl) h99
      refine opStep_value (v := .slice sa sn sc) (w' := wz) ?_ ⟨hGz.read rfl rfl _, rfl, fun k _ _ _ h => h⟩
      simp only [execOp, Option.map_some, Option.map_none, evalS, e0, e1]
      simp only [Sem.run_bind, Sem.run_pure, hsl wz, Result.andThen_ok]
    obtain _ | iz := iz
    · obtain rfl := Option.some.inj hiz
      have e0 : stz 104 = .string nm := hAz 3 (haz { on := 3, ground := .data } (by simp) rfl) h99
      have e1 : stz 108 = .slice sa sn sc := hAz 7 (haz { on := 7, ground := .data } (by simp) rfl) h99
      refine opStep_value (v := .agg #[.string nm, .slice sa sn sc]) (w' := wz) ?_ ⟨hGz.read rfl rfl _, rfl, fun k _ _ _ h => h⟩
      simp only [execOp, evalS]
      go_simp
    obtain _ | iz := iz
    · obtain rfl := Option.some.inj hiz
      have t1 : Lz 10 = false := L_not (fun h => hcz 10 _ h rfl { on := 9, ground := .data } (by simp) rfl) hlz
      have t2 : Lz 12 = false := L_not (fun h => hcz 12 _ h rfl { on := 9, ground := .phase } (by simp) rfl) hlz
      have hst : stg [9, 10, 12] Lz = 0 := by simp [stg, hlz, t1, t2]
      have hPj : P 0 (fun i => stz ([110, 111, 0].getD i 0)) wz := by
        have h := hGz
        unfold chG at h
        rw [hst] at h
        exact h
      have e0 : stz 109 = .agg #[.string nm, .slice sa sn sc] := hAz 8 (haz { on := 8, ground := .data } (by simp) rfl) h99
      have agree0 : ∀ i, i ≠ 0 → ([110, 111, 0] : List Nat).getD i 0 ≠ 110 := fun i hi => by
        rcases i with _ | _ | _ | i <;> simp at hi ⊢
      refine opStep_value (v := .slice (some ⟨wz.heap.size, 0, none⟩) 1 1) (w' := wz.alloc (.cells #[.string nm, .slice sa sn sc] 50)) ?_ ⟨chG.eff (by decide) (by decide) hlz hst (he0 _ wz hPj _ updS_yes (fun i hi => updS_no (agree0 i hi))), trivial, fun k _ _ _ h => h⟩
      simp only [execOp, List.map_toArray, List.map_cons, List.map_nil, evalS, e0]
      go_simp
    obtain _ | iz := iz
    · obtain rfl := Option.some.inj hiz
      have t0 : Lz 9 = true := haz { on := 9, ground := .data } (by simp) rfl
      have t2 : Lz 12 = false := L_not (fun h => hcz 12 _ h rfl { on := 10, ground := .data } (by simp) rfl) hlz
      have hst : stg [9, 10, 12] Lz = 1 := by simp [stg, t0, hlz, t2]
      have hPj : P 1 (fun i => stz ([110, 111, 0].getD i 0)) wz := by
        have h := hGz
        unfold chG at h
        rw [hst] at h
        exact h
      have e0 : stz 102 = .slice ra rn rc := hAz 1 (haz { on := 1, ground := .data } (by simp) rfl) h99
      have agree1 : ∀ i, i ≠ 1 → ([110, 111, 0] : List Nat).getD i 0 ≠ 111 := fun i hi => by
        rcases i with _ | _ | _ | i <;> simp at hi ⊢
      obtain ⟨v, w', hr, hp⟩ := he1 _ wz hPj 43
      replace hr : (Builtin.append_ #[43, 43] 43 #[.slice ra rn rc, stz 110]).run Try.prog wz = .ok v w' := hr
      refine opStep_value (v := v) (w' := w') ?_ ⟨chG.eff (by decide) (by decide) hlz hst (hp _ updS_yes (fun i hi => updS_no (agree1 i hi))), trivial, fun k _ _ _ h => h⟩
      simp only [execOp, resolve, invoke, builtin, Sem.run_bind, Sem.run_pure, Result.andThen_ok, List.map_toArray, List.map_cons, List.map_nil, evalS, e0]
      first | (rw [hr]; rfl) | (simp [hr, Result.andThen])
    obtain _ | iz := iz
    · obtain rfl := Option.some.inj hiz
      have e0 : stz 13 = .pointer (some ⟨bs, 0, none⟩) := (hFz 13 (by decide)).trans sb
      refine opStep_value (v := .pointer (some ⟨bs, 0, none⟩)) (w' := wz) ?_ ⟨hGz.read rfl rfl _, rfl, fun k _ _ _ h => h⟩
      simp only [execOp, evalS, e0]
      go_simp
    obtain _ | iz := iz
    · obtain rfl := Option.some.inj hiz
      have t0 : Lz 9 = true := haz { on := 9, ground := .phase } (by simp) rfl
      have t1 : Lz 10 = true := haz { on := 10, ground := .data } (by simp) rfl
      have hst : stg [9, 10, 12] Lz = 2 := by simp [stg, t0, t1, hlz]
      have hPj : P 2 (fun i => stz ([110, 111, 0].getD i 0)) wz := by
        have h := hGz
        unfold chG at h
        rw [hst] at h
        exact h
      have e0 : stz 112 = .pointer (some ⟨bs, 0, none⟩) := hAz 11 (haz { on := 11, ground := .data } (by simp) rfl) h99
      obtain ⟨va, vn, vc, u, hx9, hu, hfz, hp⟩ := he2 _ wz hPj
      have ex : stz 111 = .slice va vn vc := hx9
      replace hp : P 3 _ (wz.setCell ⟨bs, 0, none⟩ (stz 111)) := hp
      rw [ex] at hp
      refine opStep_skip (w' := _) ?_ ⟨chG.eff (by decide) (by decide) hlz hst hp, trivial, fun k _ _ _ h => h⟩
      simp only [execOp, evalS, e0, ex]
      go_simp
    · exfalso
      have hlen : iz + 13 < 13 := (List.getElem?_eq_some_iff.1 hiz).1
      omega
  · intro Lz stz wz hGz _ hall _
    have h := hGz
    unfold chG at h
    rw [stg_all (fun e he => by simp at he; rcases he with rfl | rfl | rfl <;> exact hall _ (by decide))] at h
    exact hQ stz wz h

/-- 'x.Things = append(x.Things, ..)'. -/
def movXxOps : List Oper := [
  { dst := some 125, op := Op.fieldAddr 47 (Operand.tmp 12) 2, type := 0, pos := "law.go:145", after := #[], guard := none },
   { dst := some 126, op := Op.load 45 (Operand.tmp 125), type := 45, pos := "law.go:145", after := #[{ on := 0, ground := Ground.data }], guard := none },
   { dst := some 127, op := Op.fieldAddr 59 (Operand.tmp 19) 0, type := 0, pos := "law.go:145", after := #[], guard := none },
   { dst := some 128, op := Op.load 9 (Operand.tmp 127), type := 9, pos := "law.go:145", after := #[{ on := 2, ground := Ground.data }], guard := none },
   { dst := some 129, op := Op.fieldAddr 59 (Operand.tmp 19) 1, type := 0, pos := "law.go:145", after := #[], guard := none },
   { dst := some 130, op := Op.load 9 (Operand.tmp 129), type := 9, pos := "law.go:145", after := #[{ on := 4, ground := Ground.data }], guard := none },
   { dst := some 131, op := Op.fieldAddr 59 (Operand.tmp 19) 2, type := 0, pos := "law.go:145", after := #[], guard := none },
   { dst := some 132, op := Op.load 57 (Operand.tmp 131), type := 57, pos := "law.go:145", after := #[{ on := 6, ground := Ground.data }], guard := none },
   { dst := some 133, op := Op.move (Operand.tmp 20), type := 3, pos := "law.go:145", after := #[], guard := none },
   { dst := some 134, op := Op.slice 57 (Operand.tmp 132) none (some (Operand.tmp 133)) none, type := 57, pos := "law.go:145", after := #[{ on := 7, ground := Ground.data }, { on := 8, ground := Ground.data }], guard := none },
   { dst := some 135, op := Op.build 59 #[(0, Operand.tmp 128), (1, Operand.tmp 130), (2, Operand.tmp 134)], type := 59, pos := "law.go:145", after := #[{ on := 3, ground := Ground.data }, { on := 5, ground := Ground.data }, { on := 9, ground := Ground.data }], guard := none },
   { dst := some 136, op := Op.buildSlice 45 1 #[(0, Operand.tmp 135)], type := 45, pos := "law.go:145", after := #[{ on := 10, ground := Ground.data }], guard := none },
   { dst := some 137, op := Op.call { callee := Callee.builtin Builtin.append, args := #[Operand.tmp 126, Operand.tmp 136], argTypes := #[45, 45] }, type := 45, pos := "law.go:145", after := #[{ on := 1, ground := Ground.data }, { on := 11, ground := Ground.data }], guard := none },
   { dst := some 138, op := Op.fieldAddr 47 (Operand.tmp 12) 2, type := 0, pos := "law.go:145", after := #[{ on := 0, ground := Ground.phase }, { on := 1, ground := Ground.phase }, { on := 2, ground := Ground.phase }, { on := 3, ground := Ground.phase }, { on := 4, ground := Ground.phase }, { on := 5, ground := Ground.phase }, { on := 6, ground := Ground.phase }, { on := 7, ground := Ground.phase }, { on := 8, ground := Ground.phase }, { on := 9, ground := Ground.phase }, { on := 10, ground := Ground.phase }, { on := 11, ground := Ground.phase }, { on := 12, ground := Ground.phase }], guard := none },
   { dst := none, op := Op.store 45 (Operand.tmp 138) (Operand.tmp 137), type := 0, pos := "law.go:145", after := #[{ on := 13, ground := Ground.data }, { on := 12, ground := Ground.data }, { on := 12, ground := Ground.chain }, { on := 0, ground := Ground.phase }, { on := 1, ground := Ground.phase }, { on := 2, ground := Ground.phase }, { on := 3, ground := Ground.phase }, { on := 4, ground := Ground.phase }, { on := 5, ground := Ground.phase }, { on := 6, ground := Ground.phase }, { on := 7, ground := Ground.phase }, { on := 8, ground := Ground.phase }, { on := 9, ground := Ground.phase }, { on := 10, ground := Ground.phase }, { on := 11, ground := Ground.phase }, { on := 12, ground := Ground.phase }], guard := none }]
set_option maxRecDepth 100000 in
set_option maxHeartbeats 4000000 in
theorem movXx {Q : Exit → Act → World → Prop} {a0 : Act} {w5 : World} (P : Nat → (Nat → Value) → World → Prop) {bs bt rn rc n c k sn sc : Nat} {ra fa sa : Option Addr} {nm key : ByteArray}
    (hsz : [125, 126, 127, 128, 129, 130, 131, 132, 133, 134, 135, 136, 137, 138].all (fun d => decide (d < a0.tmps.size)) = true)
    (sb : slots a0 12 = .pointer (some ⟨bs, 0, none⟩)) (st : slots a0 19 = .pointer (some ⟨bt, 0, none⟩)) (sk : slots a0 20 = .int .i64 (k : Int))
    (hsl : ∀ w, (Instr.sliceAt 57 (.slice fa n c) none (some (.int .i64 (k : Int))) none).run Try.prog w = .ok (.slice sa sn sc) w)
    (hP0 : ∀ x, P 0 x w5.drew)
    (hSt : ∀ j x w, j < 3 → P j x w → w.cell? ⟨bs, 2, none⟩ = some (.slice ra rn rc) ∧ w.cell? ⟨bt, 0, none⟩ = some (.string nm) ∧ w.cell? ⟨bt, 1, none⟩ = some (.string key) ∧ w.cell? ⟨bt, 2, none⟩ = some (.slice fa n c))
    (he0 : ∀ x w, P 0 x w → ∀ x', x' 0 = .slice (some ⟨w.heap.size, 0, none⟩) 1 1 → (∀ i, i ≠ 0 → x' i = x i) → P 1 x' (w.alloc (.cells #[.string nm, .string key, .slice sa sn sc] 59)))
    (he1 : ∀ x w, P 1 x w → ∀ ty, ∃ v w', (Builtin.append_ #[45, 45] ty #[.slice ra rn rc, x 0]).run Try.prog w = .ok v w' ∧ (∀ x', x' 1 = v → (∀ i, i ≠ 1 → x' i = x i) → P 2 x' w'))
    (he2 : ∀ x w, P 2 x w → ∃ va vn vc u, x 1 = .slice va vn vc ∧ w.cell? ⟨bs, 2, none⟩ = some u ∧ w.frozen? ⟨bs, 2, none⟩ = false ∧ P 3 x (w.setCell ⟨bs, 2, none⟩ (x 1)))
    (hQ : ∀ s w', P 3 (fun i => s ([136, 137, 0].getD i 0)) w' → Q .normal (putAll a0 s [125, 126, 127, 128, 129, 130, 131, 132, 133, 134, 135, 136, 137, 138]) w') :
    (Code.region 23 movXxOps.toArray true).wp Try.prog Q a0 w5 := by
  refine wp_region_as (by kernel_rfl) (by kernel_rfl) [125, 126, 127, 128, 129, 130, 131, 132, 133, 134, 135, 136, 137, 138] (by kernel_rfl) hsz (by kernel_rfl) (fun _ => 99) (asV [11, 12, 14] [.pointer (some ⟨bs, 2, none⟩), .slice ra rn rc, .pointer (some ⟨bt, 0, none⟩), .string nm, .pointer (some ⟨bt, 1, none⟩), .string key, .pointer (some ⟨bt, 2, none⟩), .slice fa n c, .int .i64 (k : Int), .slice sa sn sc, .agg #[.string nm, .string key, .slice sa sn sc], undef, undef, .pointer (some ⟨bs, 2, none⟩), undef]) (chG [11, 12, 14] [136, 137, 0] P) (chG.start (hP0 _)) ?_ ?_
  · intro Lz stz wz iz oz hGz hLz hcz hAz hFz hiz hlz haz
    have h99 : Lz 99 = false := by
      cases h : Lz 99 with
      | false => rfl
      | true => exact absurd (hLz 99 h) (by decide)
    obtain _ | iz := iz
    · obtain rfl := Option.some.inj hiz
      have e0 : stz 12 = .pointer (some ⟨bs, 0, none⟩) := (hFz 12 (by decide)).trans sb
      refine opStep_value (v := .pointer (some ⟨bs, 2, none⟩)) (w' := wz) ?_ ⟨hGz.read rfl rfl _, rfl, fun k _ _ _ h => h⟩
      simp only [execOp, evalS, e0]
      go_simp
    obtain _ | iz := iz
    · obtain rfl := Option.some.inj hiz
      have e0 : stz 125 = .pointer (some ⟨bs, 2, none⟩) := hAz 0 (haz { on := 0, ground := .data } (by simp) rfl) h99
      have hm : Lz 14 = false := L_not (fun h => hcz 14 _ h rfl { on := 1, ground := .phase } (by simp) rfl) hlz
      obtain ⟨z0, -, -, -⟩ := hSt _ _ _ (stg_lt (E := [11, 12, 14]) (by simp) hm) hGz
      refine opStep_value (v := .slice ra rn rc) (w' := wz) ?_ ⟨hGz.read rfl rfl _, rfl, fun k _ _ _ h => h⟩
      simp only [execOp, evalS, e0]
      go_simp
    obtain _ | iz := iz
    · obtain rfl := Option.some.inj hiz
      have e0 : stz 19 = .pointer (some ⟨bt, 0, none⟩) := (hFz 19 (by decide)).trans st
      refine opStep_value (v := .pointer (some ⟨bt, 0, none⟩)) (w' := wz) ?_ ⟨hGz.read rfl rfl _, rfl, fun k _ _ _ h => h⟩
      simp only [execOp, evalS, e0]
      go_simp
    obtain _ | iz := iz
    · obtain rfl := Option.some.inj hiz
      have e0 : stz 127 = .pointer (some ⟨bt, 0, none⟩) := hAz 2 (haz { on := 2, ground := .data } (by simp) rfl) h99
      have hm : Lz 14 = false := L_not (fun h => hcz 14 _ h rfl { on := 3, ground := .phase } (by simp) rfl) hlz
      obtain ⟨-, z1, -, -⟩ := hSt _ _ _ (stg_lt (E := [11, 12, 14]) (by simp) hm) hGz
      refine opStep_value (v := .string nm) (w' := wz) ?_ ⟨hGz.read rfl rfl _, rfl, fun k _ _ _ h => h⟩
      simp only [execOp, evalS, e0]
      go_simp
    obtain _ | iz := iz
    · obtain rfl := Option.some.inj hiz
      have e0 : stz 19 = .pointer (some ⟨bt, 0, none⟩) := (hFz 19 (by decide)).trans st
      refine opStep_value (v := .pointer (some ⟨bt, 1, none⟩)) (w' := wz) ?_ ⟨hGz.read rfl rfl _, rfl, fun k _ _ _ h => h⟩
      simp only [execOp, evalS, e0]
      go_simp
    obtain _ | iz := iz
    · obtain rfl := Option.some.inj hiz
      have e0 : stz 129 = .pointer (some ⟨bt, 1, none⟩) := hAz 4 (haz { on := 4, ground := .data } (by simp) rfl) h99
      have hm : Lz 14 = false := L_not (fun h => hcz 14 _ h rfl { on := 5, ground := .phase } (by simp) rfl) hlz
      obtain ⟨-, -, z2, -⟩ := hSt _ _ _ (stg_lt (E := [11, 12, 14]) (by simp) hm) hGz
      refine opStep_value (v := .string key) (w' := wz) ?_ ⟨hGz.read rfl rfl _, rfl, fun k _ _ _ h => h⟩
      simp only [execOp, evalS, e0]
      go_simp
    obtain _ | iz := iz
    · obtain rfl := Option.some.inj hiz
      have e0 : stz 19 = .pointer (some ⟨bt, 0, none⟩) := (hFz 19 (by decide)).trans st
      refine opStep_value (v := .pointer (some ⟨bt, 2, none⟩)) (w' := wz) ?_ ⟨hGz.read rfl rfl _, rfl, fun k _ _ _ h => h⟩
      simp only [execOp, evalS, e0]
      go_simp
    obtain _ | iz := iz
    · obtain rfl := Option.some.inj hiz
      have e0 : stz 131 = .pointer (some ⟨bt, 2, none⟩) := hAz 6 (haz { on := 6, ground := .data } (by simp) rfl) h99
      have hm : Lz 14 = false := L_not (fun h => hcz 14 _ h rfl { on := 7, ground := .phase } (by simp) rfl) hlz
      obtain ⟨-, -, -, z3⟩ := hSt _ _ _ (stg_lt (E := [11, 12, 14]) (by simp) hm) hGz
      refine opStep_value (v := .slice fa n c) (w' := wz) ?_ ⟨hGz.read rfl rfl _, rfl, fun k _ _ _ h => h⟩
      simp only [execOp, evalS, e0]
      go_simp
    obtain _ | iz := iz
    · obtain rfl := Option.some.inj hiz
      have e0 : stz 20 = .int .i64 (k : Int) := (hFz 20 (by decide)).trans sk
      refine opStep_value (v := .int .i64 (k : Int)) (w' := wz) ?_ ⟨hGz.read rfl rfl _, rfl, fun k _ _ _ h => h⟩
      simp only [execOp, evalS, e0]
      go_simp
    obtain _ | iz := iz
    · obtain rfl := Option.some.inj hiz
      have e0 : stz 132 = .slice fa n c := hAz 7 (haz { on := 7, ground := .data } (by simp) rfl) h99
      have e1 : stz 133 = .int .i64 (k : Int) := hAz 8 (haz { on := 8, ground := .data } (by simp) rfl) h99
      refine opStep_value (v := .slice sa sn sc) (w' := wz) ?_ ⟨hGz.read rfl rfl _, rfl, fun k _ _ _ h => h⟩
      simp only [execOp, Option.map_some, Option.map_none, evalS, e0, e1]
      simp only [Sem.run_bind, Sem.run_pure, hsl wz, Result.andThen_ok]
    obtain _ | iz := iz
    · obtain rfl := Option.some.inj hiz
      have e0 : stz 128 = .string nm := hAz 3 (haz { on := 3, ground := .data } (by simp) rfl) h99
      have e1 : stz 130 = .string key := hAz 5 (haz { on := 5, ground := .data } (by simp) rfl) h99
      have e2 : stz 134 = .slice sa sn sc := hAz 9 (haz { on := 9, ground := .data } (by simp) rfl) h99
      refine opStep_value (v := .agg #[.string nm, .string key, .slice sa sn sc]) (w' := wz) ?_ ⟨hGz.read rfl rfl _, rfl, fun k _ _ _ h => h⟩
      simp only [execOp, evalS]
      go_simp
    obtain _ | iz := iz
    · obtain rfl := Option.some.inj hiz
      have t1 : Lz 12 = false := L_not (fun h => hcz 12 _ h rfl { on := 11, ground := .data } (by simp) rfl) hlz
      have t2 : Lz 14 = false := L_not (fun h => hcz 14 _ h rfl { on := 11, ground := .phase } (by simp) rfl) hlz
      have hst : stg [11, 12, 14] Lz = 0 := by simp [stg, hlz, t1, t2]
      have hPj : P 0 (fun i => stz ([136, 137, 0].getD i 0)) wz := by
        have h := hGz
        unfold chG at h
        rw [hst] at h
        exact h
      have e0 : stz 135 = .agg #[.string nm, .string key, .slice sa sn sc] := hAz 10 (haz { on := 10, ground := .data } (by simp) rfl) h99
      have agree0 : ∀ i, i ≠ 0 → ([136, 137, 0] : List Nat).getD i 0 ≠ 136 := fun i hi => by
        rcases i with _ | _ | _ | i <;> simp at hi ⊢
      refine opStep_value (v := .slice (some ⟨wz.heap.size, 0, none⟩) 1 1) (w' := wz.alloc (.cells #[.string nm, .string key, .slice sa sn sc] 59)) ?_ ⟨chG.eff (by decide) (by decide) hlz hst (he0 _ wz hPj _ updS_yes (fun i hi => updS_no (agree0 i hi))), trivial, fun k _ _ _ h => h⟩
      simp only [execOp, List.map_toArray, List.map_cons, List.map_nil, evalS, e0]
      go_simp
    obtain _ | iz := iz
    · obtain rfl := Option.some.inj hiz
      have t0 : Lz 11 = true := haz { on := 11, ground := .data } (by simp) rfl
      have t2 : Lz 14 = false := L_not (fun h => hcz 14 _ h rfl { on := 12, ground := .data } (by simp) rfl) hlz
      have hst : stg [11, 12, 14] Lz = 1 := by simp [stg, t0, hlz, t2]
      have hPj : P 1 (fun i => stz ([136, 137, 0].getD i 0)) wz := by
        have h := hGz
        unfold chG at h
        rw [hst] at h
        exact h
      have e0 : stz 126 = .slice ra rn rc := hAz 1 (haz { on := 1, ground := .data } (by simp) rfl) h99
      have agree1 : ∀ i, i ≠ 1 → ([136, 137, 0] : List Nat).getD i 0 ≠ 137 := fun i hi => by
        rcases i with _ | _ | _ | i <;> simp at hi ⊢
      obtain ⟨v, w', hr, hp⟩ := he1 _ wz hPj 45
      replace hr : (Builtin.append_ #[45, 45] 45 #[.slice ra rn rc, stz 136]).run Try.prog wz = .ok v w' := hr
      refine opStep_value (v := v) (w' := w') ?_ ⟨chG.eff (by decide) (by decide) hlz hst (hp _ updS_yes (fun i hi => updS_no (agree1 i hi))), trivial, fun k _ _ _ h => h⟩
      simp only [execOp, resolve, invoke, builtin, Sem.run_bind, Sem.run_pure, Result.andThen_ok, List.map_toArray, List.map_cons, List.map_nil, evalS, e0]
      first | (rw [hr]; rfl) | (simp [hr, Result.andThen])
    obtain _ | iz := iz
    · obtain rfl := Option.some.inj hiz
      have e0 : stz 12 = .pointer (some ⟨bs, 0, none⟩) := (hFz 12 (by decide)).trans sb
      refine opStep_value (v := .pointer (some ⟨bs, 2, none⟩)) (w' := wz) ?_ ⟨hGz.read rfl rfl _, rfl, fun k _ _ _ h => h⟩
      simp only [execOp, evalS, e0]
      go_simp
    obtain _ | iz := iz
    · obtain rfl := Option.some.inj hiz
      have t0 : Lz 11 = true := haz { on := 11, ground := .phase } (by simp) rfl
      have t1 : Lz 12 = true := haz { on := 12, ground := .data } (by simp) rfl
      have hst : stg [11, 12, 14] Lz = 2 := by simp [stg, t0, t1, hlz]
      have hPj : P 2 (fun i => stz ([136, 137, 0].getD i 0)) wz := by
        have h := hGz
        unfold chG at h
        rw [hst] at h
        exact h
      have e0 : stz 138 = .pointer (some ⟨bs, 2, none⟩) := hAz 13 (haz { on := 13, ground := .data } (by simp) rfl) h99
      obtain ⟨va, vn, vc, u, hx9, hu, hfz, hp⟩ := he2 _ wz hPj
      have ex : stz 137 = .slice va vn vc := hx9
      replace hp : P 3 _ (wz.setCell ⟨bs, 2, none⟩ (stz 137)) := hp
      rw [ex] at hp
      refine opStep_skip (w' := _) ?_ ⟨chG.eff (by decide) (by decide) hlz hst hp, trivial, fun k _ _ _ h => h⟩
      simp only [execOp, evalS, e0, ex]
      go_simp
    · exfalso
      have hlen : iz + 15 < 15 := (List.getElem?_eq_some_iff.1 hiz).1
      omega
  · intro Lz stz wz hGz _ hall _
    have h := hGz
    unfold chG at h
    rw [stg_all (fun e he => by simp at he; rcases he with rfl | rfl | rfl <;> exact hall _ (by decide))] at h
    exact hQ stz wz h

/-- 'y.Things = append(y.Things, ..)'. -/
def movXyOps : List Oper := [
  { dst := some 139, op := Op.fieldAddr 47 (Operand.tmp 13) 2, type := 0, pos := "law.go:146", after := #[], guard := none },
   { dst := some 140, op := Op.load 45 (Operand.tmp 139), type := 45, pos := "law.go:146", after := #[{ on := 0, ground := Ground.data }], guard := none },
   { dst := some 141, op := Op.fieldAddr 59 (Operand.tmp 19) 0, type := 0, pos := "law.go:146", after := #[], guard := none },
   { dst := some 142, op := Op.load 9 (Operand.tmp 141), type := 9, pos := "law.go:146", after := #[{ on := 2, ground := Ground.data }], guard := none },
   { dst := some 143, op := Op.fieldAddr 59 (Operand.tmp 19) 1, type := 0, pos := "law.go:146", after := #[], guard := none },
   { dst := some 144, op := Op.load 9 (Operand.tmp 143), type := 9, pos := "law.go:146", after := #[{ on := 4, ground := Ground.data }], guard := none },
   { dst := some 145, op := Op.fieldAddr 59 (Operand.tmp 19) 2, type := 0, pos := "law.go:146", after := #[], guard := none },
   { dst := some 146, op := Op.load 57 (Operand.tmp 145), type := 57, pos := "law.go:146", after := #[{ on := 6, ground := Ground.data }], guard := none },
   { dst := some 147, op := Op.move (Operand.tmp 20), type := 3, pos := "law.go:146", after := #[], guard := none },
   { dst := some 148, op := Op.slice 57 (Operand.tmp 146) (some (Operand.tmp 147)) none none, type := 57, pos := "law.go:146", after := #[{ on := 7, ground := Ground.data }, { on := 8, ground := Ground.data }], guard := none },
   { dst := some 149, op := Op.build 59 #[(0, Operand.tmp 142), (1, Operand.tmp 144), (2, Operand.tmp 148)], type := 59, pos := "law.go:146", after := #[{ on := 3, ground := Ground.data }, { on := 5, ground := Ground.data }, { on := 9, ground := Ground.data }], guard := none },
   { dst := some 150, op := Op.buildSlice 45 1 #[(0, Operand.tmp 149)], type := 45, pos := "law.go:146", after := #[{ on := 10, ground := Ground.data }], guard := none },
   { dst := some 151, op := Op.call { callee := Callee.builtin Builtin.append, args := #[Operand.tmp 140, Operand.tmp 150], argTypes := #[45, 45] }, type := 45, pos := "law.go:146", after := #[{ on := 1, ground := Ground.data }, { on := 11, ground := Ground.data }], guard := none },
   { dst := some 152, op := Op.fieldAddr 47 (Operand.tmp 13) 2, type := 0, pos := "law.go:146", after := #[{ on := 0, ground := Ground.phase }, { on := 1, ground := Ground.phase }, { on := 2, ground := Ground.phase }, { on := 3, ground := Ground.phase }, { on := 4, ground := Ground.phase }, { on := 5, ground := Ground.phase }, { on := 6, ground := Ground.phase }, { on := 7, ground := Ground.phase }, { on := 8, ground := Ground.phase }, { on := 9, ground := Ground.phase }, { on := 10, ground := Ground.phase }, { on := 11, ground := Ground.phase }, { on := 12, ground := Ground.phase }], guard := none },
   { dst := none, op := Op.store 45 (Operand.tmp 152) (Operand.tmp 151), type := 0, pos := "law.go:146", after := #[{ on := 13, ground := Ground.data }, { on := 12, ground := Ground.data }, { on := 12, ground := Ground.chain }, { on := 0, ground := Ground.phase }, { on := 1, ground := Ground.phase }, { on := 2, ground := Ground.phase }, { on := 3, ground := Ground.phase }, { on := 4, ground := Ground.phase }, { on := 5, ground := Ground.phase }, { on := 6, ground := Ground.phase }, { on := 7, ground := Ground.phase }, { on := 8, ground := Ground.phase }, { on := 9, ground := Ground.phase }, { on := 10, ground := Ground.phase }, { on := 11, ground := Ground.phase }, { on := 12, ground := Ground.phase }], guard := none }]
set_option maxRecDepth 100000 in
set_option maxHeartbeats 4000000 in
theorem movXy {Q : Exit → Act → World → Prop} {a0 : Act} {w5 : World} (P : Nat → (Nat → Value) → World → Prop) {bs bt rn rc n c k sn sc : Nat} {ra fa sa : Option Addr} {nm key : ByteArray}
    (hsz : [139, 140, 141, 142, 143, 144, 145, 146, 147, 148, 149, 150, 151, 152].all (fun d => decide (d < a0.tmps.size)) = true)
    (sb : slots a0 13 = .pointer (some ⟨bs, 0, none⟩)) (st : slots a0 19 = .pointer (some ⟨bt, 0, none⟩)) (sk : slots a0 20 = .int .i64 (k : Int))
    (hsl : ∀ w, (Instr.sliceAt 57 (.slice fa n c) (some (.int .i64 (k : Int))) none none).run Try.prog w = .ok (.slice sa sn sc) w)
    (hP0 : ∀ x, P 0 x w5.drew)
    (hSt : ∀ j x w, j < 3 → P j x w → w.cell? ⟨bs, 2, none⟩ = some (.slice ra rn rc) ∧ w.cell? ⟨bt, 0, none⟩ = some (.string nm) ∧ w.cell? ⟨bt, 1, none⟩ = some (.string key) ∧ w.cell? ⟨bt, 2, none⟩ = some (.slice fa n c))
    (he0 : ∀ x w, P 0 x w → ∀ x', x' 0 = .slice (some ⟨w.heap.size, 0, none⟩) 1 1 → (∀ i, i ≠ 0 → x' i = x i) → P 1 x' (w.alloc (.cells #[.string nm, .string key, .slice sa sn sc] 59)))
    (he1 : ∀ x w, P 1 x w → ∀ ty, ∃ v w', (Builtin.append_ #[45, 45] ty #[.slice ra rn rc, x 0]).run Try.prog w = .ok v w' ∧ (∀ x', x' 1 = v → (∀ i, i ≠ 1 → x' i = x i) → P 2 x' w'))
    (he2 : ∀ x w, P 2 x w → ∃ va vn vc u, x 1 = .slice va vn vc ∧ w.cell? ⟨bs, 2, none⟩ = some u ∧ w.frozen? ⟨bs, 2, none⟩ = false ∧ P 3 x (w.setCell ⟨bs, 2, none⟩ (x 1)))
    (hQ : ∀ s w', P 3 (fun i => s ([150, 151, 0].getD i 0)) w' → Q .normal (putAll a0 s [139, 140, 141, 142, 143, 144, 145, 146, 147, 148, 149, 150, 151, 152]) w') :
    (Code.region 24 movXyOps.toArray true).wp Try.prog Q a0 w5 := by
  refine wp_region_as (by kernel_rfl) (by kernel_rfl) [139, 140, 141, 142, 143, 144, 145, 146, 147, 148, 149, 150, 151, 152] (by kernel_rfl) hsz (by kernel_rfl) (fun _ => 99) (asV [11, 12, 14] [.pointer (some ⟨bs, 2, none⟩), .slice ra rn rc, .pointer (some ⟨bt, 0, none⟩), .string nm, .pointer (some ⟨bt, 1, none⟩), .string key, .pointer (some ⟨bt, 2, none⟩), .slice fa n c, .int .i64 (k : Int), .slice sa sn sc, .agg #[.string nm, .string key, .slice sa sn sc], undef, undef, .pointer (some ⟨bs, 2, none⟩), undef]) (chG [11, 12, 14] [150, 151, 0] P) (chG.start (hP0 _)) ?_ ?_
  · intro Lz stz wz iz oz hGz hLz hcz hAz hFz hiz hlz haz
    have h99 : Lz 99 = false := by
      cases h : Lz 99 with
      | false => rfl
      | true => exact absurd (hLz 99 h) (by decide)
    obtain _ | iz := iz
    · obtain rfl := Option.some.inj hiz
      have e0 : stz 13 = .pointer (some ⟨bs, 0, none⟩) := (hFz 13 (by decide)).trans sb
      refine opStep_value (v := .pointer (some ⟨bs, 2, none⟩)) (w' := wz) ?_ ⟨hGz.read rfl rfl _, rfl, fun k _ _ _ h => h⟩
      simp only [execOp, evalS, e0]
      go_simp
    obtain _ | iz := iz
    · obtain rfl := Option.some.inj hiz
      have e0 : stz 139 = .pointer (some ⟨bs, 2, none⟩) := hAz 0 (haz { on := 0, ground := .data } (by simp) rfl) h99
      have hm : Lz 14 = false := L_not (fun h => hcz 14 _ h rfl { on := 1, ground := .phase } (by simp) rfl) hlz
      obtain ⟨z0, -, -, -⟩ := hSt _ _ _ (stg_lt (E := [11, 12, 14]) (by simp) hm) hGz
      refine opStep_value (v := .slice ra rn rc) (w' := wz) ?_ ⟨hGz.read rfl rfl _, rfl, fun k _ _ _ h => h⟩
      simp only [execOp, evalS, e0]
      go_simp
    obtain _ | iz := iz
    · obtain rfl := Option.some.inj hiz
      have e0 : stz 19 = .pointer (some ⟨bt, 0, none⟩) := (hFz 19 (by decide)).trans st
      refine opStep_value (v := .pointer (some ⟨bt, 0, none⟩)) (w' := wz) ?_ ⟨hGz.read rfl rfl _, rfl, fun k _ _ _ h => h⟩
      simp only [execOp, evalS, e0]
      go_simp
    obtain _ | iz := iz
    · obtain rfl := Option.some.inj hiz
      have e0 : stz 141 = .pointer (some ⟨bt, 0, none⟩) := hAz 2 (haz { on := 2, ground := .data } (by simp) rfl) h99
      have hm : Lz 14 = false := L_not (fun h => hcz 14 _ h rfl { on := 3, ground := .phase } (by simp) rfl) hlz
      obtain ⟨-, z1, -, -⟩ := hSt _ _ _ (stg_lt (E := [11, 12, 14]) (by simp) hm) hGz
      refine opStep_value (v := .string nm) (w' := wz) ?_ ⟨hGz.read rfl rfl _, rfl, fun k _ _ _ h => h⟩
      simp only [execOp, evalS, e0]
      go_simp
    obtain _ | iz := iz
    · obtain rfl := Option.some.inj hiz
      have e0 : stz 19 = .pointer (some ⟨bt, 0, none⟩) := (hFz 19 (by decide)).trans st
      refine opStep_value (v := .pointer (some ⟨bt, 1, none⟩)) (w' := wz) ?_ ⟨hGz.read rfl rfl _, rfl, fun k _ _ _ h => h⟩
      simp only [execOp, evalS, e0]
      go_simp
    obtain _ | iz := iz
    · obtain rfl := Option.some.inj hiz
      have e0 : stz 143 = .pointer (some ⟨bt, 1, none⟩) := hAz 4 (haz { on := 4, ground := .data } (by simp) rfl) h99
      have hm : Lz 14 = false := L_not (fun h => hcz 14 _ h rfl { on := 5, ground := .phase } (by simp) rfl) hlz
      obtain ⟨-, -, z2, -⟩ := hSt _ _ _ (stg_lt (E := [11, 12, 14]) (by simp) hm) hGz
      refine opStep_value (v := .string key) (w' := wz) ?_ ⟨hGz.read rfl rfl _, rfl, fun k _ _ _ h => h⟩
      simp only [execOp, evalS, e0]
      go_simp
    obtain _ | iz := iz
    · obtain rfl := Option.some.inj hiz
      have e0 : stz 19 = .pointer (some ⟨bt, 0, none⟩) := (hFz 19 (by decide)).trans st
      refine opStep_value (v := .pointer (some ⟨bt, 2, none⟩)) (w' := wz) ?_ ⟨hGz.read rfl rfl _, rfl, fun k _ _ _ h => h⟩
      simp only [execOp, evalS, e0]
      go_simp
    obtain _ | iz := iz
    · obtain rfl := Option.some.inj hiz
      have e0 : stz 145 = .pointer (some ⟨bt, 2, none⟩) := hAz 6 (haz { on := 6, ground := .data } (by simp) rfl) h99
      have hm : Lz 14 = false := L_not (fun h => hcz 14 _ h rfl { on := 7, ground := .phase } (by simp) rfl) hlz
      obtain ⟨-, -, -, z3⟩ := hSt _ _ _ (stg_lt (E := [11, 12, 14]) (by simp) hm) hGz
      refine opStep_value (v := .slice fa n c) (w' := wz) ?_ ⟨hGz.read rfl rfl _, rfl, fun k _ _ _ h => h⟩
      simp only [execOp, evalS, e0]
      go_simp
    obtain _ | iz := iz
    · obtain rfl := Option.some.inj hiz
      have e0 : stz 20 = .int .i64 (k : Int) := (hFz 20 (by decide)).trans sk
      refine opStep_value (v := .int .i64 (k : Int)) (w' := wz) ?_ ⟨hGz.read rfl rfl _, rfl, fun k _ _ _ h => h⟩
      simp only [execOp, evalS, e0]
      go_simp
    obtain _ | iz := iz
    · obtain rfl := Option.some.inj hiz
      have e0 : stz 146 = .slice fa n c := hAz 7 (haz { on := 7, ground := .data } (by simp) rfl) h99
      have e1 : stz 147 = .int .i64 (k : Int) := hAz 8 (haz { on := 8, ground := .data } (by simp) rfl) h99
      refine opStep_value (v := .slice sa sn sc) (w' := wz) ?_ ⟨hGz.read rfl rfl _, rfl, fun k _ _ _ h => h⟩
      simp only [execOp, Option.map_some, Option.map_none, evalS, e0, e1]
      simp only [Sem.run_bind, Sem.run_pure, hsl wz, Result.andThen_ok]
    obtain _ | iz := iz
    · obtain rfl := Option.some.inj hiz
      have e0 : stz 142 = .string nm := hAz 3 (haz { on := 3, ground := .data } (by simp) rfl) h99
      have e1 : stz 144 = .string key := hAz 5 (haz { on := 5, ground := .data } (by simp) rfl) h99
      have e2 : stz 148 = .slice sa sn sc := hAz 9 (haz { on := 9, ground := .data } (by simp) rfl) h99
      refine opStep_value (v := .agg #[.string nm, .string key, .slice sa sn sc]) (w' := wz) ?_ ⟨hGz.read rfl rfl _, rfl, fun k _ _ _ h => h⟩
      simp only [execOp, evalS]
      go_simp
    obtain _ | iz := iz
    · obtain rfl := Option.some.inj hiz
      have t1 : Lz 12 = false := L_not (fun h => hcz 12 _ h rfl { on := 11, ground := .data } (by simp) rfl) hlz
      have t2 : Lz 14 = false := L_not (fun h => hcz 14 _ h rfl { on := 11, ground := .phase } (by simp) rfl) hlz
      have hst : stg [11, 12, 14] Lz = 0 := by simp [stg, hlz, t1, t2]
      have hPj : P 0 (fun i => stz ([150, 151, 0].getD i 0)) wz := by
        have h := hGz
        unfold chG at h
        rw [hst] at h
        exact h
      have e0 : stz 149 = .agg #[.string nm, .string key, .slice sa sn sc] := hAz 10 (haz { on := 10, ground := .data } (by simp) rfl) h99
      have agree0 : ∀ i, i ≠ 0 → ([150, 151, 0] : List Nat).getD i 0 ≠ 150 := fun i hi => by
        rcases i with _ | _ | _ | i <;> simp at hi ⊢
      refine opStep_value (v := .slice (some ⟨wz.heap.size, 0, none⟩) 1 1) (w' := wz.alloc (.cells #[.string nm, .string key, .slice sa sn sc] 59)) ?_ ⟨chG.eff (by decide) (by decide) hlz hst (he0 _ wz hPj _ updS_yes (fun i hi => updS_no (agree0 i hi))), trivial, fun k _ _ _ h => h⟩
      simp only [execOp, List.map_toArray, List.map_cons, List.map_nil, evalS, e0]
      go_simp
    obtain _ | iz := iz
    · obtain rfl := Option.some.inj hiz
      have t0 : Lz 11 = true := haz { on := 11, ground := .data } (by simp) rfl
      have t2 : Lz 14 = false := L_not (fun h => hcz 14 _ h rfl { on := 12, ground := .data } (by simp) rfl) hlz
      have hst : stg [11, 12, 14] Lz = 1 := by simp [stg, t0, hlz, t2]
      have hPj : P 1 (fun i => stz ([150, 151, 0].getD i 0)) wz := by
        have h := hGz
        unfold chG at h
        rw [hst] at h
        exact h
      have e0 : stz 140 = .slice ra rn rc := hAz 1 (haz { on := 1, ground := .data } (by simp) rfl) h99
      have agree1 : ∀ i, i ≠ 1 → ([150, 151, 0] : List Nat).getD i 0 ≠ 151 := fun i hi => by
        rcases i with _ | _ | _ | i <;> simp at hi ⊢
      obtain ⟨v, w', hr, hp⟩ := he1 _ wz hPj 45
      replace hr : (Builtin.append_ #[45, 45] 45 #[.slice ra rn rc, stz 150]).run Try.prog wz = .ok v w' := hr
      refine opStep_value (v := v) (w' := w') ?_ ⟨chG.eff (by decide) (by decide) hlz hst (hp _ updS_yes (fun i hi => updS_no (agree1 i hi))), trivial, fun k _ _ _ h => h⟩
      simp only [execOp, resolve, invoke, builtin, Sem.run_bind, Sem.run_pure, Result.andThen_ok, List.map_toArray, List.map_cons, List.map_nil, evalS, e0]
      first | (rw [hr]; rfl) | (simp [hr, Result.andThen])
    obtain _ | iz := iz
    · obtain rfl := Option.some.inj hiz
      have e0 : stz 13 = .pointer (some ⟨bs, 0, none⟩) := (hFz 13 (by decide)).trans sb
      refine opStep_value (v := .pointer (some ⟨bs, 2, none⟩)) (w' := wz) ?_ ⟨hGz.read rfl rfl _, rfl, fun k _ _ _ h => h⟩
      simp only [execOp, evalS, e0]
      go_simp
    obtain _ | iz := iz
    · obtain rfl := Option.some.inj hiz
      have t0 : Lz 11 = true := haz { on := 11, ground := .phase } (by simp) rfl
      have t1 : Lz 12 = true := haz { on := 12, ground := .data } (by simp) rfl
      have hst : stg [11, 12, 14] Lz = 2 := by simp [stg, t0, t1, hlz]
      have hPj : P 2 (fun i => stz ([150, 151, 0].getD i 0)) wz := by
        have h := hGz
        unfold chG at h
        rw [hst] at h
        exact h
      have e0 : stz 152 = .pointer (some ⟨bs, 2, none⟩) := hAz 13 (haz { on := 13, ground := .data } (by simp) rfl) h99
      obtain ⟨va, vn, vc, u, hx9, hu, hfz, hp⟩ := he2 _ wz hPj
      have ex : stz 151 = .slice va vn vc := hx9
      replace hp : P 3 _ (wz.setCell ⟨bs, 2, none⟩ (stz 151)) := hp
      rw [ex] at hp
      refine opStep_skip (w' := _) ?_ ⟨chG.eff (by decide) (by decide) hlz hst hp, trivial, fun k _ _ _ h => h⟩
      simp only [execOp, evalS, e0, ex]
      go_simp
    · exfalso
      have hlen : iz + 15 < 15 := (List.getElem?_eq_some_iff.1 hiz).1
      omega
  · intro Lz stz wz hGz _ hall _
    have h := hGz
    unfold chG at h
    rw [stg_all (fun e he => by simp at he; rcases he with rfl | rfl | rfl <;> exact hall _ (by decide))] at h
    exact hQ stz wz h

end Go.Proofs.Ytjjggefmmeminac
