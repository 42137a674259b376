import Derived.Test.YtjjggefmmeminacJRc
import Derived.Test.YtjjggefmmeminacGrMem
/-
  A region of stitchlaw7.GateHidden that draws its order: what is seen of the service that is asked.
-/
namespace Go.Proofs.Ytjjggefmmeminac
open Go.RowKit Go.Sort Go.PlainAid

/-- GateHidden: 's, f := change.See(l[x.Service].Types, l[x.Service].Changes)'. -/
def hidSeeOps : List Oper := [
  { dst := some 37, op := Op.move (Operand.tmp 0), type := 22, pos := "law.go:80", after := #[], guard := none },
   { dst := some 38, op := Op.fieldAddr 34 (Operand.tmp 9) 0, type := 0, pos := "law.go:80", after := #[], guard := none },
   { dst := some 39, op := Op.load 3 (Operand.tmp 38), type := 3, pos := "law.go:80", after := #[{ on := 1, ground := Ground.data }], guard := none },
   { dst := some 40, op := Op.indexAddr 22 (Operand.tmp 37) (Operand.tmp 39), type := 0, pos := "law.go:80", after := #[{ on := 0, ground := Ground.data }, { on := 2, ground := Ground.data }], guard := none },
   { dst := some 41, op := Op.fieldAddr 47 (Operand.tmp 40) 0, type := 0, pos := "law.go:80", after := #[{ on := 3, ground := Ground.data }], guard := none },
   { dst := some 42, op := Op.load 43 (Operand.tmp 41), type := 43, pos := "law.go:80", after := #[{ on := 4, ground := Ground.data }], guard := none },
   { dst := some 43, op := Op.move (Operand.tmp 0), type := 22, pos := "law.go:80", after := #[], guard := none },
   { dst := some 44, op := Op.fieldAddr 34 (Operand.tmp 9) 0, type := 0, pos := "law.go:80", after := #[], guard := none },
   { dst := some 45, op := Op.load 3 (Operand.tmp 44), type := 3, pos := "law.go:80", after := #[{ on := 7, ground := Ground.data }], guard := none },
   { dst := some 46, op := Op.indexAddr 22 (Operand.tmp 43) (Operand.tmp 45), type := 0, pos := "law.go:80", after := #[{ on := 6, ground := Ground.data }, { on := 8, ground := Ground.data }], guard := none },
   { dst := some 47, op := Op.fieldAddr 47 (Operand.tmp 46) 1, type := 0, pos := "law.go:80", after := #[{ on := 9, ground := Ground.data }], guard := none },
   { dst := some 48, op := Op.load 44 (Operand.tmp 47), type := 44, pos := "law.go:80", after := #[{ on := 10, ground := Ground.data }], guard := none },
   { dst := some 49, op := Op.call { callee := Callee.value (Operand.func 11), args := #[Operand.tmp 42, Operand.tmp 48], argTypes := #[43, 44] }, type := 41, pos := "law.go:80", after := #[{ on := 5, ground := Ground.data }, { on := 11, ground := Ground.data }], guard := none },
   { dst := some 36, op := Op.move (Operand.tmp 49), type := 41, pos := "law.go:80", after := #[{ on := 12, ground := Ground.data }], guard := none },
   { dst := some 50, op := Op.extract (Operand.tmp 36) 0, type := 38, pos := "law.go:80", after := #[{ on := 13, ground := Ground.data }], guard := none },
   { dst := some 51, op := Op.extract (Operand.tmp 36) 1, type := 40, pos := "law.go:80", after := #[{ on := 13, ground := Ground.data }, { on := 17, ground := Ground.gcOnly Departure.lateStores }], guard := none },
   { dst := some 11, op := Op.alloc 40, type := 0, pos := "law.go:80", after := #[], guard := none },
   { dst := some 10, op := Op.assign (Operand.tmp 50), type := 38, pos := "law.go:80", after := #[{ on := 14, ground := Ground.data }, { on := 12, ground := Ground.chain }, { on := 0, ground := Ground.phase }, { on := 1, ground := Ground.phase }, { on := 2, ground := Ground.phase }, { on := 3, ground := Ground.phase }, { on := 4, ground := Ground.phase }, { on := 5, ground := Ground.phase }, { on := 6, ground := Ground.phase }, { on := 7, ground := Ground.phase }, { on := 8, ground := Ground.phase }, { on := 9, ground := Ground.phase }, { on := 10, ground := Ground.phase }, { on := 11, ground := Ground.phase }, { on := 12, ground := Ground.phase }, { on := 13, ground := Ground.phase }, { on := 14, ground := Ground.phase }, { on := 15, ground := Ground.textOnly Departure.lateStores }, { on := 16, ground := Ground.phase }], guard := none },
   { dst := none, op := Op.store 40 (Operand.tmp 11) (Operand.tmp 51), type := 0, pos := "law.go:80", after := #[{ on := 16, ground := Ground.data }, { on := 15, ground := Ground.data }, { on := 17, ground := Ground.chain }, { on := 0, ground := Ground.phase }, { on := 1, ground := Ground.phase }, { on := 2, ground := Ground.phase }, { on := 3, ground := Ground.phase }, { on := 4, ground := Ground.phase }, { on := 5, ground := Ground.phase }, { on := 6, ground := Ground.phase }, { on := 7, ground := Ground.phase }, { on := 8, ground := Ground.phase }, { on := 9, ground := Ground.phase }, { on := 10, ground := Ground.phase }, { on := 11, ground := Ground.phase }, { on := 12, ground := Ground.phase }, { on := 13, ground := Ground.phase }, { on := 14, ground := Ground.phase }, { on := 15, ground := Ground.phase }, { on := 16, ground := Ground.phase }, { on := 17, ground := Ground.phase }], guard := none }]
set_option maxRecDepth 100000 in
set_option maxHeartbeats 4000000 in
theorem hidSee {Q : Exit → Act → World → Prop} {a0 : Act} {w5 : World} (P : Nat → (Nat → Value) → Option Nat → World → Prop) {sb so n cap bx c tn tc cn cc : Nat} {ta ca : Option Addr} {g : Int}
    (hsz : [37, 38, 39, 40, 41, 42, 43, 44, 45, 46, 47, 48, 49, 36, 50, 51, 11, 10].all (fun d => decide (d < a0.tmps.size)) = true)
    (s0 : slots a0 0 = .slice (some ⟨sb, so, none⟩) n cap) (s9 : slots a0 9 = .pointer (some ⟨bx, 0, none⟩)) (hc0 : (0 : Int) ≤ (c : Int)) (hc1 : (c : Int) < (n : Int))
    (hX : ∀ j x o w, 2 ≤ j → P j x o w → ∃ y, x 1 = .tuple #[y, .agg #[.int .i64 0, .int .i64 g]])
    (hP0 : ∀ x, P 0 x none w5.drew)
    (hSt : ∀ j x o w, j < 5 → P j x o w → w.cell? ⟨bx, 0, none⟩ = some (.int .i64 (c : Int)) ∧ w.cell? ⟨sb, so + c * 3, none⟩ = some (.slice ta tn tc) ∧ w.cell? ⟨sb, so + c * 3 + 1, none⟩ = some (.slice ca cn cc))
    (he0 : ∀ x o w, P 0 x o w → Calls Try.prog 11 #[.slice ta tn tc, .slice ca cn cc] w fun e w' => ∃ v, e = .returned v ∧ (∀ x', x' 0 = v → (∀ i, i ≠ 0 → x' i = x i) → P 1 x' o w'))
    (he1 : ∀ x o w, P 1 x o w → ∀ x', x' 1 = x 0 → (∀ i, i ≠ 1 → x' i = x i) → P 2 x' o w)
    (he2 : ∀ x o w, P 2 x o w → ∃ va vn vc, x 1 = .tuple #[.slice va vn vc, .agg #[.int .i64 0, .int .i64 g]] ∧ ∀ x', x' 2 = .slice va vn vc → (∀ i, i ≠ 2 → x' i = x i) → P 3 x' o w)
    (he3 : ∀ x o w, P 3 x o w → ∀ x', x' 3 = x 2 → (∀ i, i ≠ 3 → x' i = x i) → P 4 x' o w)
    (he4 : ∀ x b w, P 4 x (some b) w → w.heap[b]? = some (.cells #[.int .i64 0, .int .i64 0] 40 (0, 0)) ∧ P 5 x (some b) ((w.setCell ⟨b, 0, none⟩ (.int .i64 0)).setCell ⟨b, 1, none⟩ (.int .i64 g)))
    (hal : ∀ j x w, P j x none w → P j x (some w.heap.size) (w.alloc (.cells #[.int .i64 0, .int .i64 0] 40)))
    (hQ : ∀ s b w', s 11 = .pointer (some ⟨b, 0, none⟩) → P 5 (fun i => s ([49, 36, 50, 10, 0].getD i 0)) (some b) w' → Q .normal (putAll a0 s [37, 38, 39, 40, 41, 42, 43, 44, 45, 46, 47, 48, 49, 36, 50, 51, 11, 10]) w') :
    (Code.region 9 hidSeeOps.toArray true).wp Try.prog Q a0 w5 := by
  refine wp_region_as (by kernel_rfl) (by kernel_rfl) [37, 38, 39, 40, 41, 42, 43, 44, 45, 46, 47, 48, 49, 36, 50, 51, 11, 10] (by kernel_rfl) hsz (by kernel_rfl) (fun _ => 99) (asV [12, 13, 14, 17, 18, 16] [.slice (some ⟨sb, so, none⟩) n cap, .pointer (some ⟨bx, 0, none⟩), .int .i64 (c : Int), .pointer (some ⟨sb, so + c * 3, none⟩), .pointer (some ⟨sb, so + c * 3, none⟩), .slice ta tn tc, .slice (some ⟨sb, so, none⟩) n cap, .pointer (some ⟨bx, 0, none⟩), .int .i64 (c : Int), .pointer (some ⟨sb, so + c * 3, none⟩), .pointer (some ⟨sb, so + c * 3 + 1, none⟩), .slice ca cn cc, undef, undef, undef, .agg #[.int .i64 0, .int .i64 g], undef, undef, undef]) (chB [12, 13, 14, 17, 18] [49, 36, 50, 10, 0] 16 11 P) (chB.start (hP0 _)) ?_ ?_
  · intro Lz stz wz iz oz hGz hLz hcz hAz hFz hiz hlz haz
    have h99 : Lz 99 = false := by
      cases h : Lz 99 with
      | false => rfl
      | true => exact absurd (hLz 99 h) (by decide)
    obtain _ | iz := iz
    · obtain rfl := Option.some.inj hiz
      have e0 : stz 0 = .slice (some ⟨sb, so, none⟩) n cap := (hFz 0 (by decide)).trans s0
      refine opStep_value (v := .slice (some ⟨sb, so, none⟩) n cap) (w' := wz) ?_ ⟨hGz.read rfl rfl _, rfl, fun k _ _ _ h => h⟩
      simp only [execOp, evalS, e0]
      go_simp
    obtain _ | iz := iz
    · obtain rfl := Option.some.inj hiz
      have e0 : stz 9 = .pointer (some ⟨bx, 0, none⟩) := (hFz 9 (by decide)).trans s9
      refine opStep_value (v := .pointer (some ⟨bx, 0, none⟩)) (w' := wz) ?_ ⟨hGz.read rfl rfl _, rfl, fun k _ _ _ h => h⟩
      simp only [execOp, evalS, e0]
      go_simp
    obtain _ | iz := iz
    · obtain rfl := Option.some.inj hiz
      have e0 : stz 38 = .pointer (some ⟨bx, 0, none⟩) := hAz 1 (haz { on := 1, ground := .data } (by simp) rfl) h99
      have hm : Lz 18 = false := L_not (fun h => hcz 18 _ h rfl { on := 2, ground := .phase } (by simp) rfl) hlz
      obtain ⟨z0, -, -⟩ := hSt _ _ _ _ (stg_lt (E := [12, 13, 14, 17, 18]) (by simp) hm) hGz.2
      refine opStep_value (v := .int .i64 (c : Int)) (w' := wz) ?_ ⟨hGz.read rfl rfl _, rfl, fun k _ _ _ h => h⟩
      simp only [execOp, evalS, e0]
      go_simp
    obtain _ | iz := iz
    · obtain rfl := Option.some.inj hiz
      have e0 : stz 37 = .slice (some ⟨sb, so, none⟩) n cap := hAz 0 (haz { on := 0, ground := .data } (by simp) rfl) h99
      have e1 : stz 39 = .int .i64 (c : Int) := hAz 2 (haz { on := 2, ground := .data } (by simp) rfl) h99
      refine opStep_value (v := .pointer (some ⟨sb, so + c * 3, none⟩)) (w' := wz) ?_ ⟨hGz.read rfl rfl _, rfl, fun k _ _ _ h => h⟩
      simp only [execOp, evalS, e0, e1]
      go_simp
    obtain _ | iz := iz
    · obtain rfl := Option.some.inj hiz
      have e0 : stz 40 = .pointer (some ⟨sb, so + c * 3, none⟩) := hAz 3 (haz { on := 3, ground := .data } (by simp) rfl) h99
      refine opStep_value (v := .pointer (some ⟨sb, so + c * 3, none⟩)) (w' := wz) ?_ ⟨hGz.read rfl rfl _, rfl, fun k _ _ _ h => h⟩
      simp only [execOp, evalS, e0]
      go_simp
    obtain _ | iz := iz
    · obtain rfl := Option.some.inj hiz
      have e0 : stz 41 = .pointer (some ⟨sb, so + c * 3, none⟩) := hAz 4 (haz { on := 4, ground := .data } (by simp) rfl) h99
      have hm : Lz 18 = false := L_not (fun h => hcz 18 _ h rfl { on := 5, ground := .phase } (by simp) rfl) hlz
      obtain ⟨-, z1, -⟩ := hSt _ _ _ _ (stg_lt (E := [12, 13, 14, 17, 18]) (by simp) hm) hGz.2
      refine opStep_value (v := .slice ta tn tc) (w' := wz) ?_ ⟨hGz.read rfl rfl _, rfl, fun k _ _ _ h => h⟩
      simp only [execOp, evalS, e0]
      go_simp
    obtain _ | iz := iz
    · obtain rfl := Option.some.inj hiz
      have e0 : stz 0 = .slice (some ⟨sb, so, none⟩) n cap := (hFz 0 (by decide)).trans s0
      refine opStep_value (v := .slice (some ⟨sb, so, none⟩) n cap) (w' := wz) ?_ ⟨hGz.read rfl rfl _, rfl, fun k _ _ _ h => h⟩
      simp only [execOp, evalS, e0]
      go_simp
    obtain _ | iz := iz
    · obtain rfl := Option.some.inj hiz
      have e0 : stz 9 = .pointer (some ⟨bx, 0, none⟩) := (hFz 9 (by decide)).trans s9
      refine opStep_value (v := .pointer (some ⟨bx, 0, none⟩)) (w' := wz) ?_ ⟨hGz.read rfl rfl _, rfl, fun k _ _ _ h => h⟩
      simp only [execOp, evalS, e0]
      go_simp
    obtain _ | iz := iz
    · obtain rfl := Option.some.inj hiz
      have e0 : stz 44 = .pointer (some ⟨bx, 0, none⟩) := hAz 7 (haz { on := 7, ground := .data } (by simp) rfl) h99
      have hm : Lz 18 = false := L_not (fun h => hcz 18 _ h rfl { on := 8, ground := .phase } (by simp) rfl) hlz
      obtain ⟨z0, -, -⟩ := hSt _ _ _ _ (stg_lt (E := [12, 13, 14, 17, 18]) (by simp) hm) hGz.2
      refine opStep_value (v := .int .i64 (c : Int)) (w' := wz) ?_ ⟨hGz.read rfl rfl _, rfl, fun k _ _ _ h => h⟩
      simp only [execOp, evalS, e0]
      go_simp
    obtain _ | iz := iz
    · obtain rfl := Option.some.inj hiz
      have e0 : stz 43 = .slice (some ⟨sb, so, none⟩) n cap := hAz 6 (haz { on := 6, ground := .data } (by simp) rfl) h99
      have e1 : stz 45 = .int .i64 (c : Int) := hAz 8 (haz { on := 8, ground := .data } (by simp) rfl) h99
      refine opStep_value (v := .pointer (some ⟨sb, so + c * 3, none⟩)) (w' := wz) ?_ ⟨hGz.read rfl rfl _, rfl, fun k _ _ _ h => h⟩
      simp only [execOp, evalS, e0, e1]
      go_simp
    obtain _ | iz := iz
    · obtain rfl := Option.some.inj hiz
      have e0 : stz 46 = .pointer (some ⟨sb, so + c * 3, none⟩) := hAz 9 (haz { on := 9, ground := .data } (by simp) rfl) h99
      refine opStep_value (v := .pointer (some ⟨sb, so + c * 3 + 1, none⟩)) (w' := wz) ?_ ⟨hGz.read rfl rfl _, rfl, fun k _ _ _ h => h⟩
      simp only [execOp, evalS, e0]
      go_simp
    obtain _ | iz := iz
    · obtain rfl := Option.some.inj hiz
      have e0 : stz 47 = .pointer (some ⟨sb, so + c * 3 + 1, none⟩) := hAz 10 (haz { on := 10, ground := .data } (by simp) rfl) h99
      have hm : Lz 18 = false := L_not (fun h => hcz 18 _ h rfl { on := 11, ground := .phase } (by simp) rfl) hlz
      obtain ⟨-, -, z2⟩ := hSt _ _ _ _ (stg_lt (E := [12, 13, 14, 17, 18]) (by simp) hm) hGz.2
      refine opStep_value (v := .slice ca cn cc) (w' := wz) ?_ ⟨hGz.read rfl rfl _, rfl, fun k _ _ _ h => h⟩
      simp only [execOp, evalS, e0]
      go_simp
    obtain _ | iz := iz
    · obtain rfl := Option.some.inj hiz
      have t1 : Lz 13 = false := L_not (fun h => hcz 13 _ h rfl { on := 12, ground := .data } (by simp) rfl) hlz
      have t2 : Lz 14 = false := L_not (fun h => hcz 14 _ h rfl { on := 13, ground := .data } (by simp) rfl) (L_not (fun h => hcz 13 _ h rfl { on := 12, ground := .data } (by simp) rfl) hlz)
      have t3 : Lz 17 = false := L_not (fun h => hcz 17 _ h rfl { on := 12, ground := .chain } (by simp) rfl) hlz
      have t4 : Lz 18 = false := L_not (fun h => hcz 18 _ h rfl { on := 12, ground := .phase } (by simp) rfl) hlz
      have hst : stg [12, 13, 14, 17, 18] Lz = 0 := by simp [stg, hlz, t1, t2, t3, t4]
      have hPj : P 0 (fun i => stz ([49, 36, 50, 10, 0].getD i 0)) (bxO 16 11 Lz stz) wz := by
        have h := hGz.2
        rw [hst] at h
        exact h
      have e0 : stz 42 = .slice ta tn tc := hAz 5 (haz { on := 5, ground := .data } (by simp) rfl) h99
      have e1 : stz 48 = .slice ca cn cc := hAz 11 (haz { on := 11, ground := .data } (by simp) rfl) h99
      have agree0 : ∀ i, i ≠ 0 → ([49, 36, 50, 10, 0] : List Nat).getD i 0 ≠ 49 := fun i hi => by
        rcases i with _ | _ | _ | _ | _ | i <;> simp at hi ⊢
      refine opStep_fn 11 #[.tmp 42, .tmp 48] #[43, 44] rfl (enters_of Try.func11 (by kernel_rfl) rfl) _ (by simp only [List.map_toArray, List.map_cons, List.map_nil, evalS, e0, e1]; first | done | rfl) ((he0 _ _ wz hPj).mono fun e w' h => ?_)
      obtain ⟨v, rfl, hv⟩ := h
      exact ⟨v, rfl, hGz.eff (by decide) (by decide) hlz hst (by decide) (updS_no (by decide)) (hv _ updS_yes (fun i hi => updS_no (agree0 i hi))), trivial, fun k _ _ _ h => h⟩
    obtain _ | iz := iz
    · obtain rfl := Option.some.inj hiz
      have t0 : Lz 12 = true := haz { on := 12, ground := .data } (by simp) rfl
      have t2 : Lz 14 = false := L_not (fun h => hcz 14 _ h rfl { on := 13, ground := .data } (by simp) rfl) hlz
      have t3 : Lz 17 = false := L_not (fun h => hcz 17 _ h rfl { on := 13, ground := .phase } (by simp) rfl) hlz
      have t4 : Lz 18 = false := L_not (fun h => hcz 18 _ h rfl { on := 13, ground := .phase } (by simp) rfl) hlz
      have hst : stg [12, 13, 14, 17, 18] Lz = 1 := by simp [stg, t0, hlz, t2, t3, t4]
      have hPj : P 1 (fun i => stz ([49, 36, 50, 10, 0].getD i 0)) (bxO 16 11 Lz stz) wz := by
        have h := hGz.2
        rw [hst] at h
        exact h
      have agree1 : ∀ i, i ≠ 1 → ([49, 36, 50, 10, 0] : List Nat).getD i 0 ≠ 36 := fun i hi => by
        rcases i with _ | _ | _ | _ | _ | i <;> simp at hi ⊢
      refine opStep_value (v := stz 49) (w' := wz) ?_ ⟨hGz.eff (by decide) (by decide) hlz hst (by decide) (updS_no (by decide)) (he1 _ _ wz hPj _ updS_yes (fun i hi => updS_no (agree1 i hi))), trivial, fun k _ _ _ h => h⟩
      rfl
    obtain _ | iz := iz
    · obtain rfl := Option.some.inj hiz
      have t0 : Lz 12 = true := hcz 13 _ (haz { on := 13, ground := .data } (by simp) rfl) rfl { on := 12, ground := .data } (by simp) rfl
      have t1 : Lz 13 = true := haz { on := 13, ground := .data } (by simp) rfl
      have t3 : Lz 17 = false := L_not (fun h => hcz 17 _ h rfl { on := 14, ground := .data } (by simp) rfl) hlz
      have t4 : Lz 18 = false := L_not (fun h => hcz 18 _ h rfl { on := 14, ground := .phase } (by simp) rfl) hlz
      have hst : stg [12, 13, 14, 17, 18] Lz = 2 := by simp [stg, t0, t1, hlz, t3, t4]
      have hPj : P 2 (fun i => stz ([49, 36, 50, 10, 0].getD i 0)) (bxO 16 11 Lz stz) wz := by
        have h := hGz.2
        rw [hst] at h
        exact h
      have agree2 : ∀ i, i ≠ 2 → ([49, 36, 50, 10, 0] : List Nat).getD i 0 ≠ 50 := fun i hi => by
        rcases i with _ | _ | _ | _ | _ | i <;> simp at hi ⊢
      obtain ⟨f1, f2, f3, hx9, hp⟩ := he2 _ _ wz hPj
      have ex : stz 36 = .tuple #[.slice f1 f2 f3, .agg #[.int .i64 0, .int .i64 g]] := hx9
      refine opStep_value (v := .slice f1 f2 f3) (w' := wz) ?_ ⟨hGz.eff (by decide) (by decide) hlz hst (by decide) (updS_no (by decide)) (hp _ updS_yes (fun i hi => updS_no (agree2 i hi))), trivial, fun k _ _ _ h => h⟩
      simp only [execOp, evalS, ex]
      go_simp
    obtain _ | iz := iz
    · obtain rfl := Option.some.inj hiz
      have t13 : Lz 13 = true := haz { on := 13, ground := .data } (by simp) rfl
      have t12 : Lz 12 = true := hcz 13 _ t13 rfl { on := 12, ground := .data } (by simp) rfl
      have hst : 2 ≤ stg [12, 13, 14, 17, 18] Lz := by
        simp only [stg, List.filter_cons, t12, t13, if_true, List.length_cons]
        omega
      obtain ⟨y, hy⟩ := hX _ _ _ _ hst hGz.2
      have ex : stz 36 = .tuple #[y, .agg #[.int .i64 0, .int .i64 g]] := hy
      refine opStep_value (v := .agg #[.int .i64 0, .int .i64 g]) (w' := wz) ?_ ⟨hGz.read rfl rfl _, rfl, fun k _ _ _ h => h⟩
      simp only [execOp, evalS, ex]
      go_simp
    obtain _ | iz := iz
    · obtain rfl := Option.some.inj hiz
      refine opStep_value (v := .pointer (some ⟨wz.heap.size, 0, none⟩)) (w' := wz.alloc (.cells #[.int .i64 0, .int .i64 0] 40)) ?_ ⟨hGz.alloc hlz rfl rfl (fun j x h => hal j x wz h), trivial, fun k _ _ _ h => h⟩
      simp only [execOp]
      go_simp
    obtain _ | iz := iz
    · obtain rfl := Option.some.inj hiz
      have t0 : Lz 12 = true := haz { on := 12, ground := .chain } (by simp) rfl
      have t1 : Lz 13 = true := haz { on := 13, ground := .phase } (by simp) rfl
      have t2 : Lz 14 = true := haz { on := 14, ground := .data } (by simp) rfl
      have t4 : Lz 18 = false := L_not (fun h => hcz 18 _ h rfl { on := 17, ground := .chain } (by simp) rfl) hlz
      have hst : stg [12, 13, 14, 17, 18] Lz = 3 := by simp [stg, t0, t1, t2, hlz, t4]
      have hPj : P 3 (fun i => stz ([49, 36, 50, 10, 0].getD i 0)) (bxO 16 11 Lz stz) wz := by
        have h := hGz.2
        rw [hst] at h
        exact h
      have agree3 : ∀ i, i ≠ 3 → ([49, 36, 50, 10, 0] : List Nat).getD i 0 ≠ 10 := fun i hi => by
        rcases i with _ | _ | _ | _ | _ | i <;> simp at hi ⊢
      refine opStep_value (v := stz 50) (w' := wz) ?_ ⟨hGz.eff (by decide) (by decide) hlz hst (by decide) (updS_no (by decide)) (he3 _ _ wz hPj _ updS_yes (fun i hi => updS_no (agree3 i hi))), trivial, fun k _ _ _ h => h⟩
      rfl
    obtain _ | iz := iz
    · obtain rfl := Option.some.inj hiz
      have t0 : Lz 12 = true := haz { on := 12, ground := .phase } (by simp) rfl
      have t1 : Lz 13 = true := haz { on := 13, ground := .phase } (by simp) rfl
      have t2 : Lz 14 = true := haz { on := 14, ground := .phase } (by simp) rfl
      have t3 : Lz 17 = true := haz { on := 17, ground := .chain } (by simp) rfl
      have hst : stg [12, 13, 14, 17, 18] Lz = 4 := by simp [stg, t0, t1, t2, t3, hlz]
      have hPj : P 4 (fun i => stz ([49, 36, 50, 10, 0].getD i 0)) (bxO 16 11 Lz stz) wz := by
        have h := hGz.2
        rw [hst] at h
        exact h
      have e0 : stz 51 = .agg #[.int .i64 0, .int .i64 g] := hAz 15 (haz { on := 15, ground := .data } (by simp) rfl) h99
      have hal9 : Lz 16 = true := haz { on := 16, ground := .data } (by simp) rfl
      obtain ⟨b, hb⟩ := hGz.1 hal9
      rw [bxO_ptr hal9 hb] at hPj
      obtain ⟨q3, hp⟩ := he4 _ b wz hPj
      obtain ⟨x0, x1⟩ : wz.cell? ⟨b, 0, none⟩ = some (.int .i64 0) ∧ wz.cell? ⟨b, 1, none⟩ = some (.int .i64 0) := by simp [World.cell?, q3]
      obtain ⟨y0, y1⟩ : wz.frozen? ⟨b, 0, none⟩ = false ∧ wz.frozen? ⟨b, 1, none⟩ = false := by simp [World.frozen?, q3]
      refine opStep_skip (w' := _) ?_ ⟨hGz.eff (by decide) (by decide) hlz hst (by decide) (rfl) (by rw [bxO_ptr hal9 hb]; exact hp), trivial, fun k _ _ _ h => h⟩
      simp only [execOp, evalS, hb, e0]
      go_simp
    · exfalso
      have hlen : iz + 19 < 19 := (List.getElem?_eq_some_iff.1 hiz).1
      omega
  · intro Lz stz wz hGz _ hall _
    obtain ⟨b, hb⟩ := hGz.1 (hall 16 (by decide))
    have h := hGz.2
    rw [bxO_ptr (hall 16 (by decide)) hb] at h
    rw [stg_all (fun e he => by simp at he; rcases he with rfl | rfl | rfl | rfl | rfl <;> exact hall _ (by decide))] at h
    exact hQ stz b wz hb h

end Go.Proofs.Ytjjggefmmeminac
