import Derived.Test.YtjjggefmmeminabJBase
import Derived.Test.YtjjggefmmeminabJRe2
/-
  Regions of stitchlaw6.MeanParts that draw their order.
-/
namespace Go.Proofs.Ytjjggefmmeminab
open Go.RowKit Go.Sort

/-- 'x, y := a, a'. -/
def partTwoOps : List Oper := [
  { dst := some 42, op := Op.load 24 (Operand.tmp 4), type := 24, pos := "law.go:40", after := #[], guard := none },
   { dst := some 43, op := Op.load 24 (Operand.tmp 4), type := 24, pos := "law.go:40", after := #[{ on := 4, ground := Ground.gcOnly Departure.lateStores }], guard := none },
   { dst := some 9, op := Op.alloc 24, type := 0, pos := "law.go:40", after := #[], guard := none },
   { dst := some 10, op := Op.alloc 24, type := 0, pos := "law.go:40", after := #[], guard := none },
   { dst := none, op := Op.store 24 (Operand.tmp 9) (Operand.tmp 42), type := 0, pos := "law.go:40", after := #[{ on := 2, ground := Ground.data }, { on := 0, ground := Ground.data }, { on := 0, ground := Ground.phase }, { on := 1, ground := Ground.textOnly Departure.lateStores }, { on := 2, ground := Ground.phase }, { on := 3, ground := Ground.phase }], guard := none },
   { dst := none, op := Op.store 24 (Operand.tmp 10) (Operand.tmp 43), type := 0, pos := "law.go:40", after := #[{ on := 3, ground := Ground.data }, { on := 1, ground := Ground.data }, { on := 4, ground := Ground.chain }, { on := 0, ground := Ground.phase }, { on := 1, ground := Ground.phase }, { on := 2, ground := Ground.phase }, { on := 3, ground := Ground.phase }, { on := 4, ground := Ground.phase }], guard := none }]
set_option maxRecDepth 100000 in
set_option maxHeartbeats 4000000 in
theorem partTwo {Q : Exit → Act → World → Prop} {a0 : Act} {w5 : World} {ba g o n cap : Nat} {type key : ByteArray}
    (hsz : [42, 43, 9, 10].all (fun d => decide (d < a0.tmps.size)) = true)
    (s4 : slots a0 4 = .pointer (some ⟨ba, 0, none⟩)) (c0 : w5.cell? ⟨ba, 0, none⟩ = some (.string type)) (c1 : w5.cell? ⟨ba, 1, none⟩ = some (.string key)) (c2 : w5.cell? ⟨ba, 2, none⟩ = some (.slice (some ⟨g, o, none⟩) n cap))
    (hQ : ∀ s w' b0 b1, Below w5.heap.size w5 w' → s 9 = .pointer (some ⟨b0, 0, none⟩) → w5.heap.size ≤ b0 → w'.heap[b0]? = some (.cells #[.string type, .string key, .slice (some ⟨g, o, none⟩) n cap] 24 (0, 0)) → s 10 = .pointer (some ⟨b1, 0, none⟩) → w5.heap.size ≤ b1 → w'.heap[b1]? = some (.cells #[.string type, .string key, .slice (some ⟨g, o, none⟩) n cap] 24 (0, 0)) → b0 ≠ b1 → Q .normal (putAll a0 s [42, 43, 9, 10]) w') :
    (Code.region 6 partTwoOps.toArray true).wp Try.prog Q a0 w5 := by
  refine wp_region_as (by kernel_rfl) (by kernel_rfl) [42, 43, 9, 10] (by kernel_rfl) hsz (by kernel_rfl) (fun _ => 99) (asV [2, 3, 4, 5] [.agg #[.string type, .string key, .slice (some ⟨g, o, none⟩) n cap], .agg #[.string type, .string key, .slice (some ⟨g, o, none⟩) n cap], undef, undef, undef, undef]) (boxG w5 [⟨2, 4, 9, #[.string ⟨#[]⟩, .string ⟨#[]⟩, .slice none 0 0], #[.string type, .string key, .slice (some ⟨g, o, none⟩) n cap], 24⟩, ⟨3, 5, 10, #[.string ⟨#[]⟩, .string ⟨#[]⟩, .slice none 0 0], #[.string type, .string key, .slice (some ⟨g, o, none⟩) n cap], 24⟩]) boxG.start ?_ ?_
  · intro Lz stz wz iz oz hGz hLz hcz hAz hFz hiz hlz haz
    have h99 : Lz 99 = false := by
      cases h : Lz 99 with
      | false => rfl
      | true => exact absurd (hLz 99 h) (by decide)
    obtain _ | iz := iz
    · obtain rfl := Option.some.inj hiz
      have e0 : stz 4 = .pointer (some ⟨ba, 0, none⟩) := (hFz 4 (by decide)).trans s4
      have z0 := keptCell hGz.below c0
      have z1 := keptCell hGz.below c1
      have z2 := keptCell hGz.below c2
      refine opStep_value (v := .agg #[.string type, .string key, .slice (some ⟨g, o, none⟩) n cap]) (w' := wz) ?_ ⟨hGz.step (Below.refl _ _) rfl _, rfl, fun k _ _ _ h => h⟩
      simp only [execOp, evalS, e0]
      go_simp
    obtain _ | iz := iz
    · obtain rfl := Option.some.inj hiz
      have e0 : stz 4 = .pointer (some ⟨ba, 0, none⟩) := (hFz 4 (by decide)).trans s4
      have z0 := keptCell hGz.below c0
      have z1 := keptCell hGz.below c1
      have z2 := keptCell hGz.below c2
      refine opStep_value (v := .agg #[.string type, .string key, .slice (some ⟨g, o, none⟩) n cap]) (w' := wz) ?_ ⟨hGz.step (Below.refl _ _) rfl _, rfl, fun k _ _ _ h => h⟩
      simp only [execOp, evalS, e0]
      go_simp
    obtain _ | iz := iz
    · obtain rfl := Option.some.inj hiz
      have hs : Lz 4 = false := by
        cases h : Lz 4 with
        | false => rfl
        | true => rw [hcz 4 _ h rfl { on := 2, ground := .data } (by simp) rfl] at hlz; cases hlz
      refine opStep_value (v := .pointer (some ⟨wz.heap.size, 0, none⟩)) (w' := wz.alloc (.cells #[.string ⟨#[]⟩, .string ⟨#[]⟩, .slice none 0 0] 24)) ?_ ⟨hGz.alloc (q := ⟨2, 4, 9, #[.string ⟨#[]⟩, .string ⟨#[]⟩, .slice none 0 0], #[.string type, .string key, .slice (some ⟨g, o, none⟩) n cap], 24⟩) (by intro p hp; simp only [List.mem_cons, List.not_mem_nil, or_false] at hp; rcases hp with rfl | rfl <;> intro h <;> first | rfl | exact absurd h (Nat.ne_of_beq_eq_false rfl)) rfl (Nat.ne_of_beq_eq_false rfl) hs, trivial, fun k _ _ _ h => h⟩
      simp only [execOp]
      go_simp
    obtain _ | iz := iz
    · obtain rfl := Option.some.inj hiz
      have hs : Lz 5 = false := by
        cases h : Lz 5 with
        | false => rfl
        | true => rw [hcz 5 _ h rfl { on := 3, ground := .data } (by simp) rfl] at hlz; cases hlz
      refine opStep_value (v := .pointer (some ⟨wz.heap.size, 0, none⟩)) (w' := wz.alloc (.cells #[.string ⟨#[]⟩, .string ⟨#[]⟩, .slice none 0 0] 24)) ?_ ⟨hGz.alloc (q := ⟨3, 5, 10, #[.string ⟨#[]⟩, .string ⟨#[]⟩, .slice none 0 0], #[.string type, .string key, .slice (some ⟨g, o, none⟩) n cap], 24⟩) (by intro p hp; simp only [List.mem_cons, List.not_mem_nil, or_false] at hp; rcases hp with rfl | rfl <;> intro h <;> first | rfl | exact absurd h (Nat.ne_of_beq_eq_false rfl)) rfl (Nat.ne_of_beq_eq_false rfl) hs, trivial, fun k _ _ _ h => h⟩
      simp only [execOp]
      go_simp
    obtain _ | iz := iz
    · obtain rfl := Option.some.inj hiz
      have hb := haz { on := 2, ground := .data } (by simp) rfl
      obtain ⟨b, q1, q2, q3⟩ := hGz.box ⟨2, 4, 9, #[.string ⟨#[]⟩, .string ⟨#[]⟩, .slice none 0 0], #[.string type, .string key, .slice (some ⟨g, o, none⟩) n cap], 24⟩ (by simp) hb
      rw [hlz] at q3
      simp only [Bool.false_eq_true, if_false] at q3
      replace q1 : stz 9 = _ := q1
      have e2 : stz 42 = .agg #[.string type, .string key, .slice (some ⟨g, o, none⟩) n cap] := hAz 0 (haz { on := 0, ground := .data } (by simp) rfl) h99
      obtain ⟨x0, x1, x2⟩ : wz.cell? ⟨b, 0, none⟩ = some (.string ⟨#[]⟩) ∧ wz.cell? ⟨b, 1, none⟩ = some (.string ⟨#[]⟩) ∧ wz.cell? ⟨b, 2, none⟩ = some (.slice none 0 0) := by simp [World.cell?, q3]
      obtain ⟨y0, y1, y2⟩ : wz.frozen? ⟨b, 0, none⟩ = false ∧ wz.frozen? ⟨b, 1, none⟩ = false ∧ wz.frozen? ⟨b, 2, none⟩ = false := by simp [World.frozen?, q3]
      have g0 := heap_setCell_same _ b 0 _ 24 (.string type) q3
      have g1 := heap_setCell_same _ b 1 _ 24 (.string key) g0
      have g2 := heap_setCell_same _ b 2 _ 24 (.slice (some ⟨g, o, none⟩) n cap) g1
      refine opStep_skip (w' := ((wz.setCell ⟨b, 0, none⟩ (.string type)).setCell ⟨b, 1, none⟩ (.string key)).setCell ⟨b, 2, none⟩ (.slice (some ⟨g, o, none⟩) n cap)) ?_ ⟨hGz.store (q := ⟨2, 4, 9, #[.string ⟨#[]⟩, .string ⟨#[]⟩, .slice none 0 0], #[.string type, .string key, .slice (some ⟨g, o, none⟩) n cap], 24⟩) (by intro p hp; simp only [List.mem_cons, List.not_mem_nil, or_false] at hp; rcases hp with rfl | rfl <;> intro h <;> first | rfl | exact absurd h (Nat.ne_of_beq_eq_false rfl)) rfl (by simp) (Nat.ne_of_beq_eq_false rfl) hb q1 q2 (by rw [g2]; rfl) ((((OnlyB.refl _ _).set 0 _).set 1 _).set 2 _) _, trivial, fun k _ _ _ h => h⟩
      simp only [execOp, evalS, q1, e2]
      go_simp
    obtain _ | iz := iz
    · obtain rfl := Option.some.inj hiz
      have hb := haz { on := 3, ground := .data } (by simp) rfl
      obtain ⟨b, q1, q2, q3⟩ := hGz.box ⟨3, 5, 10, #[.string ⟨#[]⟩, .string ⟨#[]⟩, .slice none 0 0], #[.string type, .string key, .slice (some ⟨g, o, none⟩) n cap], 24⟩ (by simp) hb
      rw [hlz] at q3
      simp only [Bool.false_eq_true, if_false] at q3
      replace q1 : stz 10 = _ := q1
      have e2 : stz 43 = .agg #[.string type, .string key, .slice (some ⟨g, o, none⟩) n cap] := hAz 1 (haz { on := 1, ground := .data } (by simp) rfl) h99
      obtain ⟨x0, x1, x2⟩ : wz.cell? ⟨b, 0, none⟩ = some (.string ⟨#[]⟩) ∧ wz.cell? ⟨b, 1, none⟩ = some (.string ⟨#[]⟩) ∧ wz.cell? ⟨b, 2, none⟩ = some (.slice none 0 0) := by simp [World.cell?, q3]
      obtain ⟨y0, y1, y2⟩ : wz.frozen? ⟨b, 0, none⟩ = false ∧ wz.frozen? ⟨b, 1, none⟩ = false ∧ wz.frozen? ⟨b, 2, none⟩ = false := by simp [World.frozen?, q3]
      have g0 := heap_setCell_same _ b 0 _ 24 (.string type) q3
      have g1 := heap_setCell_same _ b 1 _ 24 (.string key) g0
      have g2 := heap_setCell_same _ b 2 _ 24 (.slice (some ⟨g, o, none⟩) n cap) g1
      refine opStep_skip (w' := ((wz.setCell ⟨b, 0, none⟩ (.string type)).setCell ⟨b, 1, none⟩ (.string key)).setCell ⟨b, 2, none⟩ (.slice (some ⟨g, o, none⟩) n cap)) ?_ ⟨hGz.store (q := ⟨3, 5, 10, #[.string ⟨#[]⟩, .string ⟨#[]⟩, .slice none 0 0], #[.string type, .string key, .slice (some ⟨g, o, none⟩) n cap], 24⟩) (by intro p hp; simp only [List.mem_cons, List.not_mem_nil, or_false] at hp; rcases hp with rfl | rfl <;> intro h <;> first | rfl | exact absurd h (Nat.ne_of_beq_eq_false rfl)) rfl (by simp) (Nat.ne_of_beq_eq_false rfl) hb q1 q2 (by rw [g2]; rfl) ((((OnlyB.refl _ _).set 0 _).set 1 _).set 2 _) _, trivial, fun k _ _ _ h => h⟩
      simp only [execOp, evalS, q1, e2]
      go_simp
    · exfalso
      have hlen : iz + 6 < 6 := (List.getElem?_eq_some_iff.1 hiz).1
      omega
  · intro Lz stz wz hGz _ hall _
    obtain ⟨b0, q0, r0, t0⟩ := hGz.box ⟨2, 4, 9, #[.string ⟨#[]⟩, .string ⟨#[]⟩, .slice none 0 0], #[.string type, .string key, .slice (some ⟨g, o, none⟩) n cap], 24⟩ (by simp) (hall 2 (by decide))
    rw [show Lz 4 = true from hall 4 (by decide)] at t0
    obtain ⟨b1, q1, r1, t1⟩ := hGz.box ⟨3, 5, 10, #[.string ⟨#[]⟩, .string ⟨#[]⟩, .slice none 0 0], #[.string type, .string key, .slice (some ⟨g, o, none⟩) n cap], 24⟩ (by simp) (hall 3 (by decide))
    rw [show Lz 5 = true from hall 5 (by decide)] at t1
    exact hQ stz wz b0 b1 hGz.below q0 r0 t0 q1 r1 t1 (fun e => hGz.ne ⟨2, 4, 9, #[.string ⟨#[]⟩, .string ⟨#[]⟩, .slice none 0 0], #[.string type, .string key, .slice (some ⟨g, o, none⟩) n cap], 24⟩ ⟨3, 5, 10, #[.string ⟨#[]⟩, .string ⟨#[]⟩, .slice none 0 0], #[.string type, .string key, .slice (some ⟨g, o, none⟩) n cap], 24⟩ (by simp) (by simp) (Nat.ne_of_beq_eq_false rfl) (hall 2 (by decide)) (hall 3 (by decide)) (q0.trans (by rw [e]; exact q1.symm)))

/-- 'x.Picks, y.Picks = a.Picks[:at], a.Picks[at:]'. -/
def partCutOps : List Oper := [
  { dst := some 44, op := Op.fieldAddr 24 (Operand.tmp 4) 2, type := 0, pos := "law.go:41", after := #[], guard := none },
   { dst := some 45, op := Op.load 22 (Operand.tmp 44), type := 22, pos := "law.go:41", after := #[{ on := 0, ground := Ground.data }], guard := none },
   { dst := some 46, op := Op.move (Operand.tmp 2), type := 3, pos := "law.go:41", after := #[], guard := none },
   { dst := some 47, op := Op.slice 22 (Operand.tmp 45) none (some (Operand.tmp 46)) none, type := 22, pos := "law.go:41", after := #[{ on := 1, ground := Ground.data }, { on := 2, ground := Ground.data }], guard := none },
   { dst := some 48, op := Op.fieldAddr 24 (Operand.tmp 4) 2, type := 0, pos := "law.go:41", after := #[], guard := none },
   { dst := some 49, op := Op.load 22 (Operand.tmp 48), type := 22, pos := "law.go:41", after := #[{ on := 4, ground := Ground.data }], guard := none },
   { dst := some 50, op := Op.move (Operand.tmp 2), type := 3, pos := "law.go:41", after := #[], guard := none },
   { dst := some 51, op := Op.slice 22 (Operand.tmp 49) (some (Operand.tmp 50)) none none, type := 22, pos := "law.go:41", after := #[{ on := 5, ground := Ground.data }, { on := 6, ground := Ground.data }], guard := none },
   { dst := some 52, op := Op.fieldAddr 24 (Operand.tmp 9) 2, type := 0, pos := "law.go:41", after := #[{ on := 0, ground := Ground.phase }, { on := 1, ground := Ground.phase }, { on := 2, ground := Ground.phase }, { on := 3, ground := Ground.phase }, { on := 4, ground := Ground.textOnly Departure.lateStores }, { on := 5, ground := Ground.textOnly Departure.lateStores }, { on := 6, ground := Ground.textOnly Departure.lateStores }, { on := 7, ground := Ground.textOnly Departure.lateStoresUnsure }], guard := none },
   { dst := none, op := Op.store 22 (Operand.tmp 52) (Operand.tmp 47), type := 0, pos := "law.go:41", after := #[{ on := 8, ground := Ground.data }, { on := 3, ground := Ground.data }, { on := 0, ground := Ground.phase }, { on := 1, ground := Ground.phase }, { on := 2, ground := Ground.phase }, { on := 3, ground := Ground.phase }, { on := 4, ground := Ground.textOnly Departure.lateStores }, { on := 5, ground := Ground.textOnly Departure.lateStores }, { on := 6, ground := Ground.textOnly Departure.lateStores }, { on := 7, ground := Ground.textOnly Departure.lateStoresUnsure }], guard := none },
   { dst := some 53, op := Op.fieldAddr 24 (Operand.tmp 10) 2, type := 0, pos := "law.go:41", after := #[{ on := 0, ground := Ground.phase }, { on := 1, ground := Ground.phase }, { on := 2, ground := Ground.phase }, { on := 3, ground := Ground.phase }, { on := 4, ground := Ground.phase }, { on := 5, ground := Ground.phase }, { on := 6, ground := Ground.phase }, { on := 7, ground := Ground.phase }, { on := 8, ground := Ground.phase }, { on := 9, ground := Ground.phase }], guard := none },
   { dst := none, op := Op.store 22 (Operand.tmp 53) (Operand.tmp 51), type := 0, pos := "law.go:41", after := #[{ on := 10, ground := Ground.data }, { on := 7, ground := Ground.data }, { on := 9, ground := Ground.chain }, { on := 0, ground := Ground.phase }, { on := 1, ground := Ground.phase }, { on := 2, ground := Ground.phase }, { on := 3, ground := Ground.phase }, { on := 4, ground := Ground.phase }, { on := 5, ground := Ground.phase }, { on := 6, ground := Ground.phase }, { on := 7, ground := Ground.phase }, { on := 8, ground := Ground.phase }, { on := 9, ground := Ground.phase }], guard := none }]
structure cutG (w5 : World) (bx bY : Nat) (type key : ByteArray) (v0 v1 v2 : Value) (L : Nat → Bool) (s : Nat → Value) (w : World) : Prop where
  keep : Keep (fun k => k < w5.heap.size ∧ k ≠ bx ∧ k ≠ bY) w5 w
  x : w.heap[bx]? = some (.cells #[.string type, .string key, if L 9 then v1 else v0] 24 (0, 0))
  y : w.heap[bY]? = some (.cells #[.string type, .string key, if L 11 then v2 else v0] 24 (0, 0))
theorem cutG.pure {w5 w : World} {bx bY : Nat} {type key : ByteArray} {v0 v1 v2 : Value} {L : Nat → Bool} {s s' : Nat → Value} (h : cutG w5 bx bY type key v0 v1 v2 L s w) {i : Nat} (h9 : 9 ≠ i) (h11 : 11 ≠ i) : cutG w5 bx bY type key v0 v1 v2 (also L i) s' w := ⟨h.keep, by rw [also_no h9]; exact h.x, by rw [also_no h11]; exact h.y⟩
set_option maxRecDepth 100000 in
set_option maxHeartbeats 4000000 in
theorem partCut {Q : Exit → Act → World → Prop} {a0 : Act} {w5 : World} {ba bx bY g o n cap k : Nat} {type key : ByteArray}
    (hsz : [44, 45, 46, 47, 48, 49, 50, 51, 52, 53].all (fun d => decide (d < a0.tmps.size)) = true)
    (s4 : slots a0 4 = .pointer (some ⟨ba, 0, none⟩)) (s2 : slots a0 2 = .int .i64 (k : Int)) (s9 : slots a0 9 = .pointer (some ⟨bx, 0, none⟩)) (s10 : slots a0 10 = .pointer (some ⟨bY, 0, none⟩)) (hk : k < n) (hn : n ≤ cap) (hne : bx ≠ bY) (hax : ba ≠ bx) (hay : ba ≠ bY)
    (ca : w5.cell? ⟨ba, 2, none⟩ = some (.slice (some ⟨g, o, none⟩) n cap)) (hx : w5.heap[bx]? = some (.cells #[.string type, .string key, .slice (some ⟨g, o, none⟩) n cap] 24 (0, 0))) (hy : w5.heap[bY]? = some (.cells #[.string type, .string key, .slice (some ⟨g, o, none⟩) n cap] 24 (0, 0)))
    (hQ : ∀ s w', Keep (fun k => k < w5.heap.size ∧ k ≠ bx ∧ k ≠ bY) w5 w' → w'.heap[bx]? = some (.cells #[.string type, .string key, .slice (some ⟨g, o, none⟩) k cap] 24 (0, 0)) → w'.heap[bY]? = some (.cells #[.string type, .string key, .slice (some ⟨g, o + k * 3, none⟩) (n - k) (cap - k)] 24 (0, 0)) → Q .normal (putAll a0 s [44, 45, 46, 47, 48, 49, 50, 51, 52, 53]) w') :
    (Code.region 7 partCutOps.toArray true).wp Try.prog Q a0 w5 := by
  have hk1 : (k : Int) ≤ (n : Int) := by omega
  have hk0 : (0 : Int) ≤ (k : Int) := by omega
  have hk2 : (k : Int) ≤ (cap : Int) := by omega
  have hk3 : (n : Int) ≤ (cap : Int) := by omega
  have hk4 : ¬ cap = k := by omega
  have hba : ba < w5.heap.size := block_lt_of_cell ca
  have hbx : bx < w5.heap.size := lt_of_block hx
  have hbY : bY < w5.heap.size := lt_of_block hy
  refine wp_region_as (by kernel_rfl) (by kernel_rfl) [44, 45, 46, 47, 48, 49, 50, 51, 52, 53] (by kernel_rfl) hsz (by kernel_rfl) (fun _ => 99) (asV [9, 11] [.pointer (some ⟨ba, 2, none⟩), .slice (some ⟨g, o, none⟩) n cap, .int .i64 (k : Int), .slice (some ⟨g, o, none⟩) k cap, .pointer (some ⟨ba, 2, none⟩), .slice (some ⟨g, o, none⟩) n cap, .int .i64 (k : Int), .slice (some ⟨g, o + k * 3, none⟩) (n - k) (cap - k), .pointer (some ⟨bx, 2, none⟩), undef, .pointer (some ⟨bY, 2, none⟩)])
    (cutG w5 bx bY type key (.slice (some ⟨g, o, none⟩) n cap) (.slice (some ⟨g, o, none⟩) k cap) (.slice (some ⟨g, o + k * 3, none⟩) (n - k) (cap - k))) ⟨Keep.of (Below.refl _ _).drew fun _ h => h.1, hx, hy⟩ ?_ ?_
  · intro L st wz i o' hG hL hcl hA hF hi' hl ha
    have h99 : L 99 = false := L99 hL (by decide)
    have e4 : st 4 = .pointer (some ⟨ba, 0, none⟩) := (hF 4 (by decide)).trans s4
    have ca' : wz.cell? ⟨ba, 2, none⟩ = some (.slice (some ⟨g, o, none⟩) n cap) := (hG.keep.cell ⟨hba, hax, hay⟩).trans ca
    obtain _ | i := i
    · obtain rfl := Option.some.inj hi'
      refine opStep_value (v := .pointer (some ⟨ba, 2, none⟩)) (w' := wz) ?_ ⟨hG.pure (by decide) (by decide), rfl, fun k _ _ _ h => h⟩
      simp only [execOp, evalS, e4]
      go_simp
    obtain _ | i := i
    · obtain rfl := Option.some.inj hi'
      have e1 : st 44 = .pointer (some ⟨ba, 2, none⟩) := hA 0 (ha { on := 0, ground := .data } (by simp) rfl) h99
      refine opStep_value (v := .slice (some ⟨g, o, none⟩) n cap) (w' := wz) ?_ ⟨hG.pure (by decide) (by decide), rfl, fun k _ _ _ h => h⟩
      simp only [execOp, evalS, e1]
      go_simp
    obtain _ | i := i
    · obtain rfl := Option.some.inj hi'
      have e1 : st 2 = .int .i64 (k : Int) := (hF 2 (by decide)).trans s2
      exact opStep_value (v := st 2) (w' := wz) rfl ⟨hG.pure (by decide) (by decide), e1, fun k _ _ _ h => h⟩
    obtain _ | i := i
    · obtain rfl := Option.some.inj hi'
      have e1 : st 45 = .slice (some ⟨g, o, none⟩) n cap := hA 1 (ha { on := 1, ground := .data } (by simp) rfl) h99
      have e2 : st 46 = .int .i64 (k : Int) := hA 2 (ha { on := 2, ground := .data } (by simp) rfl) h99
      refine opStep_value (v := .slice (some ⟨g, o, none⟩) k cap) (w' := wz) ?_ ⟨hG.pure (by decide) (by decide), rfl, fun k _ _ _ h => h⟩
      simp only [execOp, Option.map_some, Option.map_none, evalS, e1, e2]
      go_simp
    obtain _ | i := i
    · obtain rfl := Option.some.inj hi'
      refine opStep_value (v := .pointer (some ⟨ba, 2, none⟩)) (w' := wz) ?_ ⟨hG.pure (by decide) (by decide), rfl, fun k _ _ _ h => h⟩
      simp only [execOp, evalS, e4]
      go_simp
    obtain _ | i := i
    · obtain rfl := Option.some.inj hi'
      have e1 : st 48 = .pointer (some ⟨ba, 2, none⟩) := hA 4 (ha { on := 4, ground := .data } (by simp) rfl) h99
      refine opStep_value (v := .slice (some ⟨g, o, none⟩) n cap) (w' := wz) ?_ ⟨hG.pure (by decide) (by decide), rfl, fun k _ _ _ h => h⟩
      simp only [execOp, evalS, e1]
      go_simp
    obtain _ | i := i
    · obtain rfl := Option.some.inj hi'
      have e1 : st 2 = .int .i64 (k : Int) := (hF 2 (by decide)).trans s2
      exact opStep_value (v := st 2) (w' := wz) rfl ⟨hG.pure (by decide) (by decide), e1, fun k _ _ _ h => h⟩
    obtain _ | i := i
    · obtain rfl := Option.some.inj hi'
      have e1 : st 49 = .slice (some ⟨g, o, none⟩) n cap := hA 5 (ha { on := 5, ground := .data } (by simp) rfl) h99
      have e2 : st 50 = .int .i64 (k : Int) := hA 6 (ha { on := 6, ground := .data } (by simp) rfl) h99
      refine opStep_value (v := .slice (some ⟨g, o + k * 3, none⟩) (n - k) (cap - k)) (w' := wz) ?_ ⟨hG.pure (by decide) (by decide), rfl, fun k _ _ _ h => h⟩
      simp only [execOp, Option.map_some, Option.map_none, evalS, e1, e2]
      go_simp
    obtain _ | i := i
    · obtain rfl := Option.some.inj hi'
      have e1 : st 9 = .pointer (some ⟨bx, 0, none⟩) := (hF 9 (by decide)).trans s9
      refine opStep_value (v := .pointer (some ⟨bx, 2, none⟩)) (w' := wz) ?_ ⟨hG.pure (by decide) (by decide), rfl, fun k _ _ _ h => h⟩
      simp only [execOp, evalS, e1]
      go_simp
    obtain _ | i := i
    · obtain rfl := Option.some.inj hi'
      have e1 : st 52 = .pointer (some ⟨bx, 2, none⟩) := hA 8 (ha { on := 8, ground := .data } (by simp) rfl) h99
      have e2 : st 47 = .slice (some ⟨g, o, none⟩) k cap := hA 3 (ha { on := 3, ground := .data } (by simp) rfl) h99
      have hX := hG.x
      rw [show L 9 = false from hl] at hX
      have u0 : wz.cell? ⟨bx, 2, none⟩ = some (.slice (some ⟨g, o, none⟩) n cap) := by simp [World.cell?, hX]
      have z0 : wz.frozen? ⟨bx, 2, none⟩ = false := by simp [World.frozen?, hX]
      refine opStep_skip (w' := wz.setCell ⟨bx, 2, none⟩ (.slice (some ⟨g, o, none⟩) k cap)) ?_ ⟨⟨hG.keep.trans (Keep.set _ _ _ fun h => h.2.1 rfl), ?_, ?_⟩, trivial, fun k _ _ _ h => h⟩
      · simp only [execOp, evalS, e1, e2]
        go_simp
      · rw [also_yes]; exact heap_setCell_same _ bx 2 _ 24 _ hX
      · rw [also_no (by decide), Below.heap_setCell _ _ _ _ (Ne.symm hne)]; exact hG.y
    obtain _ | i := i
    · obtain rfl := Option.some.inj hi'
      have e1 : st 10 = .pointer (some ⟨bY, 0, none⟩) := (hF 10 (by decide)).trans s10
      refine opStep_value (v := .pointer (some ⟨bY, 2, none⟩)) (w' := wz) ?_ ⟨hG.pure (by decide) (by decide), rfl, fun k _ _ _ h => h⟩
      simp only [execOp, evalS, e1]
      go_simp
    obtain _ | i := i
    · obtain rfl := Option.some.inj hi'
      have e1 : st 53 = .pointer (some ⟨bY, 2, none⟩) := hA 10 (ha { on := 10, ground := .data } (by simp) rfl) h99
      have e2 : st 51 = .slice (some ⟨g, o + k * 3, none⟩) (n - k) (cap - k) := hA 7 (ha { on := 7, ground := .data } (by simp) rfl) h99
      have hY := hG.y
      rw [show L 11 = false from hl] at hY
      have u0 : wz.cell? ⟨bY, 2, none⟩ = some (.slice (some ⟨g, o, none⟩) n cap) := by simp [World.cell?, hY]
      have z0 : wz.frozen? ⟨bY, 2, none⟩ = false := by simp [World.frozen?, hY]
      refine opStep_skip (w' := wz.setCell ⟨bY, 2, none⟩ (.slice (some ⟨g, o + k * 3, none⟩) (n - k) (cap - k))) ?_ ⟨⟨hG.keep.trans (Keep.set _ _ _ fun h => h.2.2 rfl), ?_, ?_⟩, trivial, fun k _ _ _ h => h⟩
      · simp only [execOp, evalS, e1, e2]
        go_simp
      · rw [also_no (by decide), Below.heap_setCell _ _ _ _ hne]; exact hG.x
      · rw [also_yes]; exact heap_setCell_same _ bY 2 _ 24 _ hY
    · exfalso
      have hlen : i + 12 < 12 := (List.getElem?_eq_some_iff.1 hi').1
      omega
  · intro L st wz hG _ hall _
    have hX := hG.x
    have hY := hG.y
    rw [show L 9 = true from hall 9 (by decide)] at hX
    rw [show L 11 = true from hall 11 (by decide)] at hY
    exact hQ st wz hG.keep hX hY
end Go.Proofs.Ytjjggefmmeminab
