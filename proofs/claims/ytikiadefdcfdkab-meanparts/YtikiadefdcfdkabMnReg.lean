import Derived.Test.YtikiadefdcfdkabJBase
import Derived.Test.YtikiadefdcfdkabMnThere
/-
  Regions of package mean that draw their order: a new variable each (or two), whatever the order.
-/
namespace Go.Proofs.Ytikiadefdcfdkab
open Go.RowKit Go.Sort

/-- getter: 'part := w.parts[merge.Find(w.parts, typ)]'. -/
def getPartOps : List Oper := [
  { dst := some 11, op := Op.fieldAddr 113 (Operand.tmp 3) 0, type := 0, pos := "mean.go:63", after := #[], guard := none },
   { dst := some 12, op := Op.load 36 (Operand.tmp 11), type := 36, pos := "mean.go:63", after := #[{ on := 0, ground := Ground.data }], guard := none },
   { dst := some 13, op := Op.fieldAddr 113 (Operand.tmp 3) 0, type := 0, pos := "mean.go:63", after := #[], guard := none },
   { dst := some 14, op := Op.load 36 (Operand.tmp 13), type := 36, pos := "mean.go:63", after := #[{ on := 2, ground := Ground.data }], guard := none },
   { dst := some 15, op := Op.move (Operand.tmp 1), type := 9, pos := "mean.go:63", after := #[], guard := none },
   { dst := some 16, op := Op.call { callee := Callee.value (Operand.func 69), args := #[Operand.tmp 14, Operand.tmp 15], argTypes := #[36, 9] }, type := 3, pos := "mean.go:63", after := #[{ on := 3, ground := Ground.data }, { on := 4, ground := Ground.data }], guard := none },
   { dst := some 17, op := Op.indexAddr 36 (Operand.tmp 12) (Operand.tmp 16), type := 0, pos := "mean.go:63", after := #[{ on := 1, ground := Ground.data }, { on := 5, ground := Ground.data }], guard := none },
   { dst := some 18, op := Op.load 132 (Operand.tmp 17), type := 132, pos := "mean.go:63", after := #[{ on := 6, ground := Ground.data }], guard := none },
   { dst := some 7, op := Op.alloc 132, type := 0, pos := "mean.go:63", after := #[], guard := none },
   { dst := none, op := Op.store 132 (Operand.tmp 7) (Operand.tmp 18), type := 0, pos := "mean.go:63", after := #[{ on := 8, ground := Ground.data }, { on := 7, ground := Ground.data }, { on := 5, ground := Ground.chain }, { on := 0, ground := Ground.phase }, { on := 1, ground := Ground.phase }, { on := 2, ground := Ground.phase }, { on := 3, ground := Ground.phase }, { on := 4, ground := Ground.phase }, { on := 5, ground := Ground.phase }, { on := 6, ground := Ground.phase }, { on := 7, ground := Ground.phase }, { on := 8, ground := Ground.phase }], guard := none }]
set_option maxRecDepth 100000 in
set_option maxHeartbeats 4000000 in
theorem getPart {Q : Exit → Act → World → Prop} {a0 : Act} {w5 : World} {bw g o pn pc i fn fc on oc hn hc : Nat} {fa oa ha : Option Addr} {nm typ : ByteArray}
    (hsz : [11, 12, 13, 14, 15, 16, 17, 18, 7].all (fun d => decide (d < a0.tmps.size)) = true)
    (s3 : slots a0 3 = .pointer (some ⟨bw, 0, none⟩)) (s1 : slots a0 1 = .string typ) (ca : w5.cell? ⟨bw, 0, none⟩ = some (.slice (some ⟨g, o, none⟩) pn pc)) (hi : i < pn)
    (hcall : ∀ w1, Below w5.heap.size w5 w1 → Calls Try.prog 69 #[.slice (some ⟨g, o, none⟩) pn pc, .string typ] w1 fun e w' => e = .returned (.int .i64 (i : Int)) ∧ Below w1.heap.size w1 w')
    (c0 : w5.cell? ⟨g, o + i * 4, none⟩ = some (.string nm)) (c1 : w5.cell? ⟨g, o + i * 4 + 1, none⟩ = some (.slice fa fn fc)) (c2 : w5.cell? ⟨g, o + i * 4 + 2, none⟩ = some (.slice oa on oc)) (c3 : w5.cell? ⟨g, o + i * 4 + 3, none⟩ = some (.slice ha hn hc))
    (hQ : ∀ s w' b0, Below w5.heap.size w5 w' → s 7 = .pointer (some ⟨b0, 0, none⟩) → w5.heap.size ≤ b0 → w'.heap[b0]? = some (.cells #[.string nm, .slice fa fn fc, .slice oa on oc, .slice ha hn hc] 132 (0, 0)) → Q .normal (putAll a0 s [11, 12, 13, 14, 15, 16, 17, 18, 7]) w') :
    (Code.region 1 getPartOps.toArray true).wp Try.prog Q a0 w5 := by
  refine wp_region_as (by kernel_rfl) (by kernel_rfl) [11, 12, 13, 14, 15, 16, 17, 18, 7] (by kernel_rfl) hsz (by kernel_rfl) (fun _ => 99) (asV [8, 9] [.pointer (some ⟨bw, 0, none⟩), .slice (some ⟨g, o, none⟩) pn pc, .pointer (some ⟨bw, 0, none⟩), .slice (some ⟨g, o, none⟩) pn pc, .string typ, .int .i64 (i : Int), .pointer (some ⟨g, o + i * 4, none⟩), .agg #[.string nm, .slice fa fn fc, .slice oa on oc, .slice ha hn hc], undef, undef]) (boxG w5 [⟨8, 9, 7, #[.string ⟨#[]⟩, .slice none 0 0, .slice none 0 0, .slice none 0 0], #[.string nm, .slice fa fn fc, .slice oa on oc, .slice ha hn hc], 132⟩]) boxG.start ?_ ?_
  · intro Lz stz wz iz oz hGz hLz hcz hAz hFz hiz hlz haz
    have hi1 : (i : Int) < (pn : Int) := by omega
    have hi0 : (0 : Int) ≤ (i : Int) := by omega
    have h99 : Lz 99 = false := by
      cases h : Lz 99 with
      | false => rfl
      | true => exact absurd (hLz 99 h) (by decide)
    obtain _ | iz := iz
    · obtain rfl := Option.some.inj hiz
      have e0 : stz 3 = .pointer (some ⟨bw, 0, none⟩) := (hFz 3 (by decide)).trans s3
      refine opStep_value (v := .pointer (some ⟨bw, 0, none⟩)) (w' := wz) ?_ ⟨hGz.step (Below.refl _ _) rfl _, rfl, fun k _ _ _ h => h⟩
      simp only [execOp, evalS, e0]
      go_simp
    obtain _ | iz := iz
    · obtain rfl := Option.some.inj hiz
      have e0 : stz 11 = .pointer (some ⟨bw, 0, none⟩) := hAz 0 (haz { on := 0, ground := .data } (by simp) rfl) h99
      have z0 := keptCell hGz.below ca
      refine opStep_value (v := .slice (some ⟨g, o, none⟩) pn pc) (w' := wz) ?_ ⟨hGz.step (Below.refl _ _) rfl _, rfl, fun k _ _ _ h => h⟩
      simp only [execOp, evalS, e0]
      go_simp
    obtain _ | iz := iz
    · obtain rfl := Option.some.inj hiz
      have e0 : stz 3 = .pointer (some ⟨bw, 0, none⟩) := (hFz 3 (by decide)).trans s3
      refine opStep_value (v := .pointer (some ⟨bw, 0, none⟩)) (w' := wz) ?_ ⟨hGz.step (Below.refl _ _) rfl _, rfl, fun k _ _ _ h => h⟩
      simp only [execOp, evalS, e0]
      go_simp
    obtain _ | iz := iz
    · obtain rfl := Option.some.inj hiz
      have e0 : stz 13 = .pointer (some ⟨bw, 0, none⟩) := hAz 2 (haz { on := 2, ground := .data } (by simp) rfl) h99
      have z0 := keptCell hGz.below ca
      refine opStep_value (v := .slice (some ⟨g, o, none⟩) pn pc) (w' := wz) ?_ ⟨hGz.step (Below.refl _ _) rfl _, rfl, fun k _ _ _ h => h⟩
      simp only [execOp, evalS, e0]
      go_simp
    obtain _ | iz := iz
    · obtain rfl := Option.some.inj hiz
      have e1 : stz 1 = .string typ := (hFz 1 (by decide)).trans s1
      exact opStep_value (v := stz 1) (w' := wz) rfl ⟨hGz.step (Below.refl _ _) rfl _, e1, fun k _ _ _ h => h⟩
    obtain _ | iz := iz
    · obtain rfl := Option.some.inj hiz
      have e0 : stz 14 = .slice (some ⟨g, o, none⟩) pn pc := hAz 3 (haz { on := 3, ground := .data } (by simp) rfl) h99
      have e1 : stz 15 = .string typ := hAz 4 (haz { on := 4, ground := .data } (by simp) rfl) h99
      refine opStep_fn 69 #[.tmp 14, .tmp 15] #[36, 9] rfl (enters_of Try.func69 (by kernel_rfl) rfl) #[.slice (some ⟨g, o, none⟩) pn pc, .string typ] (by simp [evalS, e0, e1]) ((hcall wz hGz.below).mono fun e w' h => ?_)
      obtain ⟨rfl, hw'⟩ := h
      exact ⟨_, rfl, hGz.step hw' rfl _, rfl, fun k _ _ _ h => h⟩
    obtain _ | iz := iz
    · obtain rfl := Option.some.inj hiz
      have e0 : stz 12 = .slice (some ⟨g, o, none⟩) pn pc := hAz 1 (haz { on := 1, ground := .data } (by simp) rfl) h99
      have e1 : stz 16 = .int .i64 (i : Int) := hAz 5 (haz { on := 5, ground := .data } (by simp) rfl) h99
      refine opStep_value (v := .pointer (some ⟨g, o + i * 4, none⟩)) (w' := wz) ?_ ⟨hGz.step (Below.refl _ _) rfl _, rfl, fun k _ _ _ h => h⟩
      simp only [execOp, evalS, e0, e1]
      go_simp
    obtain _ | iz := iz
    · obtain rfl := Option.some.inj hiz
      have e0 : stz 17 = .pointer (some ⟨g, o + i * 4, none⟩) := hAz 6 (haz { on := 6, ground := .data } (by simp) rfl) h99
      have z0 := keptCell hGz.below c0
      have z1 := keptCell hGz.below c1
      have z2 := keptCell hGz.below c2
      have z3 := keptCell hGz.below c3
      refine opStep_value (v := .agg #[.string nm, .slice fa fn fc, .slice oa on oc, .slice ha hn hc]) (w' := wz) ?_ ⟨hGz.step (Below.refl _ _) rfl _, rfl, fun k _ _ _ h => h⟩
      simp only [execOp, evalS, e0]
      go_simp
    obtain _ | iz := iz
    · obtain rfl := Option.some.inj hiz
      have hs : Lz 9 = false := by
        cases h : Lz 9 with
        | false => rfl
        | true => rw [hcz 9 _ h rfl { on := 8, ground := .data } (by simp) rfl] at hlz; cases hlz
      refine opStep_value (v := .pointer (some ⟨wz.heap.size, 0, none⟩)) (w' := wz.alloc (.cells #[.string ⟨#[]⟩, .slice none 0 0, .slice none 0 0, .slice none 0 0] 132)) ?_ ⟨hGz.alloc (q := ⟨8, 9, 7, #[.string ⟨#[]⟩, .slice none 0 0, .slice none 0 0, .slice none 0 0], #[.string nm, .slice fa fn fc, .slice oa on oc, .slice ha hn hc], 132⟩) (by intro p hp; simp only [List.mem_cons, List.not_mem_nil, or_false] at hp; subst hp; intro _; rfl) rfl (Nat.ne_of_beq_eq_false rfl) hs, trivial, fun k _ _ _ h => h⟩
      simp only [execOp]
      go_simp
    obtain _ | iz := iz
    · obtain rfl := Option.some.inj hiz
      have hb := haz { on := 8, ground := .data } (by simp) rfl
      obtain ⟨b, q1, q2, q3⟩ := hGz.box ⟨8, 9, 7, #[.string ⟨#[]⟩, .slice none 0 0, .slice none 0 0, .slice none 0 0], #[.string nm, .slice fa fn fc, .slice oa on oc, .slice ha hn hc], 132⟩ (by simp) hb
      rw [hlz] at q3
      simp only [Bool.false_eq_true, if_false] at q3
      replace q1 : stz 7 = _ := q1
      have e2 : stz 18 = .agg #[.string nm, .slice fa fn fc, .slice oa on oc, .slice ha hn hc] := hAz 7 (haz { on := 7, ground := .data } (by simp) rfl) h99
      obtain ⟨x0, x1, x2, x3⟩ : wz.cell? ⟨b, 0, none⟩ = some (.string ⟨#[]⟩) ∧ wz.cell? ⟨b, 1, none⟩ = some (.slice none 0 0) ∧ wz.cell? ⟨b, 2, none⟩ = some (.slice none 0 0) ∧ wz.cell? ⟨b, 3, none⟩ = some (.slice none 0 0) := by simp [World.cell?, q3]
      obtain ⟨y0, y1, y2, y3⟩ : wz.frozen? ⟨b, 0, none⟩ = false ∧ wz.frozen? ⟨b, 1, none⟩ = false ∧ wz.frozen? ⟨b, 2, none⟩ = false ∧ wz.frozen? ⟨b, 3, none⟩ = false := by simp [World.frozen?, q3]
      have g0 := heap_setCell_same _ b 0 _ 132 (.string nm) q3
      have g1 := heap_setCell_same _ b 1 _ 132 (.slice fa fn fc) g0
      have g2 := heap_setCell_same _ b 2 _ 132 (.slice oa on oc) g1
      have g3 := heap_setCell_same _ b 3 _ 132 (.slice ha hn hc) g2
      refine opStep_skip (w' := (((wz.setCell ⟨b, 0, none⟩ (.string nm)).setCell ⟨b, 1, none⟩ (.slice fa fn fc)).setCell ⟨b, 2, none⟩ (.slice oa on oc)).setCell ⟨b, 3, none⟩ (.slice ha hn hc)) ?_ ⟨hGz.store (q := ⟨8, 9, 7, #[.string ⟨#[]⟩, .slice none 0 0, .slice none 0 0, .slice none 0 0], #[.string nm, .slice fa fn fc, .slice oa on oc, .slice ha hn hc], 132⟩) (by intro p hp; simp only [List.mem_cons, List.not_mem_nil, or_false] at hp; subst hp; intro _; rfl) rfl (by simp) (Nat.ne_of_beq_eq_false rfl) hb q1 q2 (by rw [g3]; rfl) (((((OnlyB.refl _ _).set 0 _).set 1 _).set 2 _).set 3 _) _, trivial, fun k _ _ _ h => h⟩
      simp only [execOp, evalS, q1, e2]
      go_simp
    · exfalso
      have hlen : iz + 10 < 10 := (List.getElem?_eq_some_iff.1 hiz).1
      omega
  · intro Lz stz wz hGz _ hall _
    obtain ⟨b0, q0, r0, t0⟩ := hGz.box ⟨8, 9, 7, #[.string ⟨#[]⟩, .slice none 0 0, .slice none 0 0, .slice none 0 0], #[.string nm, .slice fa fn fc, .slice oa on oc, .slice ha hn hc], 132⟩ (by simp) (hall 8 (by decide))
    rw [show Lz 9 = true from hall 9 (by decide)] at t0
    exact hQ stz wz b0 hGz.below q0 r0 t0
/-- picker: 'field, owner := part.Type.Fields[i], part.Owners[i]'. -/
def pickTwoOps : List Oper := [
  { dst := some 17, op := Op.fieldAddr 132 (Operand.tmp 4) 0, type := 0, pos := "mean.go:90", after := #[], guard := none },
   { dst := some 18, op := Op.fieldAddr 99 (Operand.tmp 17) 1, type := 0, pos := "mean.go:90", after := #[{ on := 0, ground := Ground.data }], guard := none },
   { dst := some 19, op := Op.load 97 (Operand.tmp 18), type := 97, pos := "mean.go:90", after := #[{ on := 1, ground := Ground.data }], guard := none },
   { dst := some 20, op := Op.move (Operand.tmp 7), type := 3, pos := "mean.go:90", after := #[], guard := none },
   { dst := some 21, op := Op.indexAddr 97 (Operand.tmp 19) (Operand.tmp 20), type := 0, pos := "mean.go:90", after := #[{ on := 2, ground := Ground.data }, { on := 3, ground := Ground.data }], guard := none },
   { dst := some 22, op := Op.load 138 (Operand.tmp 21), type := 138, pos := "mean.go:90", after := #[{ on := 4, ground := Ground.data }], guard := none },
   { dst := some 23, op := Op.fieldAddr 132 (Operand.tmp 4) 1, type := 0, pos := "mean.go:90", after := #[{ on := 13, ground := Ground.gcOnly Departure.lateStores }], guard := none },
   { dst := some 24, op := Op.load 130 (Operand.tmp 23), type := 130, pos := "mean.go:90", after := #[{ on := 6, ground := Ground.data }, { on := 13, ground := Ground.gcOnly Departure.lateStores }], guard := none },
   { dst := some 25, op := Op.move (Operand.tmp 7), type := 3, pos := "mean.go:90", after := #[{ on := 13, ground := Ground.gcOnly Departure.lateStores }], guard := none },
   { dst := some 26, op := Op.indexAddr 130 (Operand.tmp 24) (Operand.tmp 25), type := 0, pos := "mean.go:90", after := #[{ on := 7, ground := Ground.data }, { on := 8, ground := Ground.data }, { on := 13, ground := Ground.gcOnly Departure.lateStores }], guard := none },
   { dst := some 27, op := Op.load 148 (Operand.tmp 26), type := 148, pos := "mean.go:90", after := #[{ on := 9, ground := Ground.data }, { on := 13, ground := Ground.gcOnly Departure.lateStores }], guard := none },
   { dst := some 8, op := Op.alloc 138, type := 0, pos := "mean.go:90", after := #[], guard := none },
   { dst := some 9, op := Op.alloc 148, type := 0, pos := "mean.go:90", after := #[], guard := none },
   { dst := none, op := Op.store 138 (Operand.tmp 8) (Operand.tmp 22), type := 0, pos := "mean.go:90", after := #[{ on := 11, ground := Ground.data }, { on := 5, ground := Ground.data }, { on := 0, ground := Ground.phase }, { on := 1, ground := Ground.phase }, { on := 2, ground := Ground.phase }, { on := 3, ground := Ground.phase }, { on := 4, ground := Ground.phase }, { on := 5, ground := Ground.phase }, { on := 6, ground := Ground.textOnly Departure.lateStores }, { on := 7, ground := Ground.textOnly Departure.lateStores }, { on := 8, ground := Ground.textOnly Departure.lateStores }, { on := 9, ground := Ground.textOnly Departure.lateStores }, { on := 10, ground := Ground.textOnly Departure.lateStores }, { on := 11, ground := Ground.phase }, { on := 12, ground := Ground.phase }], guard := none },
   { dst := none, op := Op.store 148 (Operand.tmp 9) (Operand.tmp 27), type := 0, pos := "mean.go:90", after := #[{ on := 12, ground := Ground.data }, { on := 10, ground := Ground.data }, { on := 13, ground := Ground.chain }, { on := 0, ground := Ground.phase }, { on := 1, ground := Ground.phase }, { on := 2, ground := Ground.phase }, { on := 3, ground := Ground.phase }, { on := 4, ground := Ground.phase }, { on := 5, ground := Ground.phase }, { on := 6, ground := Ground.phase }, { on := 7, ground := Ground.phase }, { on := 8, ground := Ground.phase }, { on := 9, ground := Ground.phase }, { on := 10, ground := Ground.phase }, { on := 11, ground := Ground.phase }, { on := 12, ground := Ground.phase }, { on := 13, ground := Ground.phase }], guard := none }]
set_option maxRecDepth 100000 in
set_option maxHeartbeats 4000000 in
theorem pickTwo {Q : Exit → Act → World → Prop} {a0 : Act} {w5 : World} {bp g o fn fc g2 o2 on oc i : Nat} {fnm fty oty ofl : ByteArray} {fk sv : Int}
    (hsz : [17, 18, 19, 20, 21, 22, 23, 24, 25, 26, 27, 8, 9].all (fun d => decide (d < a0.tmps.size)) = true)
    (s4 : slots a0 4 = .pointer (some ⟨bp, 0, none⟩)) (s7 : slots a0 7 = .int .i64 (i : Int)) (hi : i < fn) (hi2 : i < on) (ca : w5.cell? ⟨bp, 1, none⟩ = some (.slice (some ⟨g, o, none⟩) fn fc)) (cb : w5.cell? ⟨bp, 2, none⟩ = some (.slice (some ⟨g2, o2, none⟩) on oc))
    (c0 : w5.cell? ⟨g, o + i * 3, none⟩ = some (.string fnm)) (c1 : w5.cell? ⟨g, o + i * 3 + 1, none⟩ = some (.int .i64 fk)) (c2 : w5.cell? ⟨g, o + i * 3 + 2, none⟩ = some (.string fty))
    (d0 : w5.cell? ⟨g2, o2 + i * 3, none⟩ = some (.int .i64 sv)) (d1 : w5.cell? ⟨g2, o2 + i * 3 + 1, none⟩ = some (.string oty)) (d2 : w5.cell? ⟨g2, o2 + i * 3 + 2, none⟩ = some (.string ofl))
    (hQ : ∀ s w' b0 b1, Below w5.heap.size w5 w' → s 8 = .pointer (some ⟨b0, 0, none⟩) → w5.heap.size ≤ b0 → w'.heap[b0]? = some (.cells #[.string fnm, .int .i64 fk, .string fty] 138 (0, 0)) → s 9 = .pointer (some ⟨b1, 0, none⟩) → w5.heap.size ≤ b1 → w'.heap[b1]? = some (.cells #[.int .i64 sv, .string oty, .string ofl] 148 (0, 0)) → Q .normal (putAll a0 s [17, 18, 19, 20, 21, 22, 23, 24, 25, 26, 27, 8, 9]) w') :
    (Code.region 2 pickTwoOps.toArray true).wp Try.prog Q a0 w5 := by
  refine wp_region_as (by kernel_rfl) (by kernel_rfl) [17, 18, 19, 20, 21, 22, 23, 24, 25, 26, 27, 8, 9] (by kernel_rfl) hsz (by kernel_rfl) (fun _ => 99) (asV [11, 12, 13, 14] [.pointer (some ⟨bp, 0, none⟩), .pointer (some ⟨bp, 1, none⟩), .slice (some ⟨g, o, none⟩) fn fc, .int .i64 (i : Int), .pointer (some ⟨g, o + i * 3, none⟩), .agg #[.string fnm, .int .i64 fk, .string fty], .pointer (some ⟨bp, 2, none⟩), .slice (some ⟨g2, o2, none⟩) on oc, .int .i64 (i : Int), .pointer (some ⟨g2, o2 + i * 3, none⟩), .agg #[.int .i64 sv, .string oty, .string ofl], undef, undef, undef, undef]) (boxG w5 [⟨11, 13, 8, #[.string ⟨#[]⟩, .int .i64 0, .string ⟨#[]⟩], #[.string fnm, .int .i64 fk, .string fty], 138⟩, ⟨12, 14, 9, #[.int .i64 0, .string ⟨#[]⟩, .string ⟨#[]⟩], #[.int .i64 sv, .string oty, .string ofl], 148⟩]) boxG.start ?_ ?_
  · intro Lz stz wz iz oz hGz hLz hcz hAz hFz hiz hlz haz
    have hi1 : (i : Int) < (fn : Int) := by omega
    have hi3 : (i : Int) < (on : Int) := by omega
    have hi0 : (0 : Int) ≤ (i : Int) := by omega
    have h99 : Lz 99 = false := by
      cases h : Lz 99 with
      | false => rfl
      | true => exact absurd (hLz 99 h) (by decide)
    obtain _ | iz := iz
    · obtain rfl := Option.some.inj hiz
      have e0 : stz 4 = .pointer (some ⟨bp, 0, none⟩) := (hFz 4 (by decide)).trans s4
      refine opStep_value (v := .pointer (some ⟨bp, 0, none⟩)) (w' := wz) ?_ ⟨hGz.step (Below.refl _ _) rfl _, rfl, fun k _ _ _ h => h⟩
      simp only [execOp, evalS, e0]
      go_simp
    obtain _ | iz := iz
    · obtain rfl := Option.some.inj hiz
      have e0 : stz 17 = .pointer (some ⟨bp, 0, none⟩) := hAz 0 (haz { on := 0, ground := .data } (by simp) rfl) h99
      refine opStep_value (v := .pointer (some ⟨bp, 1, none⟩)) (w' := wz) ?_ ⟨hGz.step (Below.refl _ _) rfl _, rfl, fun k _ _ _ h => h⟩
      simp only [execOp, evalS, e0]
      go_simp
    obtain _ | iz := iz
    · obtain rfl := Option.some.inj hiz
      have e0 : stz 18 = .pointer (some ⟨bp, 1, none⟩) := hAz 1 (haz { on := 1, ground := .data } (by simp) rfl) h99
      have z0 := keptCell hGz.below ca
      refine opStep_value (v := .slice (some ⟨g, o, none⟩) fn fc) (w' := wz) ?_ ⟨hGz.step (Below.refl _ _) rfl _, rfl, fun k _ _ _ h => h⟩
      simp only [execOp, evalS, e0]
      go_simp
    obtain _ | iz := iz
    · obtain rfl := Option.some.inj hiz
      have e1 : stz 7 = .int .i64 (i : Int) := (hFz 7 (by decide)).trans s7
      exact opStep_value (v := stz 7) (w' := wz) rfl ⟨hGz.step (Below.refl _ _) rfl _, e1, fun k _ _ _ h => h⟩
    obtain _ | iz := iz
    · obtain rfl := Option.some.inj hiz
      have e0 : stz 19 = .slice (some ⟨g, o, none⟩) fn fc := hAz 2 (haz { on := 2, ground := .data } (by simp) rfl) h99
      have e1 : stz 20 = .int .i64 (i : Int) := hAz 3 (haz { on := 3, ground := .data } (by simp) rfl) h99
      refine opStep_value (v := .pointer (some ⟨g, o + i * 3, none⟩)) (w' := wz) ?_ ⟨hGz.step (Below.refl _ _) rfl _, rfl, fun k _ _ _ h => h⟩
      simp only [execOp, evalS, e0, e1]
      go_simp
    obtain _ | iz := iz
    · obtain rfl := Option.some.inj hiz
      have e0 : stz 21 = .pointer (some ⟨g, o + i * 3, none⟩) := hAz 4 (haz { on := 4, ground := .data } (by simp) rfl) h99
      have z0 := keptCell hGz.below c0
      have z1 := keptCell hGz.below c1
      have z2 := keptCell hGz.below c2
      refine opStep_value (v := .agg #[.string fnm, .int .i64 fk, .string fty]) (w' := wz) ?_ ⟨hGz.step (Below.refl _ _) rfl _, rfl, fun k _ _ _ h => h⟩
      simp only [execOp, evalS, e0]
      go_simp
    obtain _ | iz := iz
    · obtain rfl := Option.some.inj hiz
      have e0 : stz 4 = .pointer (some ⟨bp, 0, none⟩) := (hFz 4 (by decide)).trans s4
      refine opStep_value (v := .pointer (some ⟨bp, 2, none⟩)) (w' := wz) ?_ ⟨hGz.step (Below.refl _ _) rfl _, rfl, fun k _ _ _ h => h⟩
      simp only [execOp, evalS, e0]
      go_simp
    obtain _ | iz := iz
    · obtain rfl := Option.some.inj hiz
      have e0 : stz 23 = .pointer (some ⟨bp, 2, none⟩) := hAz 6 (haz { on := 6, ground := .data } (by simp) rfl) h99
      have z0 := keptCell hGz.below cb
      refine opStep_value (v := .slice (some ⟨g2, o2, none⟩) on oc) (w' := wz) ?_ ⟨hGz.step (Below.refl _ _) rfl _, rfl, fun k _ _ _ h => h⟩
      simp only [execOp, evalS, e0]
      go_simp
    obtain _ | iz := iz
    · obtain rfl := Option.some.inj hiz
      have e1 : stz 7 = .int .i64 (i : Int) := (hFz 7 (by decide)).trans s7
      exact opStep_value (v := stz 7) (w' := wz) rfl ⟨hGz.step (Below.refl _ _) rfl _, e1, fun k _ _ _ h => h⟩
    obtain _ | iz := iz
    · obtain rfl := Option.some.inj hiz
      have e0 : stz 24 = .slice (some ⟨g2, o2, none⟩) on oc := hAz 7 (haz { on := 7, ground := .data } (by simp) rfl) h99
      have e1 : stz 25 = .int .i64 (i : Int) := hAz 8 (haz { on := 8, ground := .data } (by simp) rfl) h99
      refine opStep_value (v := .pointer (some ⟨g2, o2 + i * 3, none⟩)) (w' := wz) ?_ ⟨hGz.step (Below.refl _ _) rfl _, rfl, fun k _ _ _ h => h⟩
      simp only [execOp, evalS, e0, e1]
      go_simp
    obtain _ | iz := iz
    · obtain rfl := Option.some.inj hiz
      have e0 : stz 26 = .pointer (some ⟨g2, o2 + i * 3, none⟩) := hAz 9 (haz { on := 9, ground := .data } (by simp) rfl) h99
      have z0 := keptCell hGz.below d0
      have z1 := keptCell hGz.below d1
      have z2 := keptCell hGz.below d2
      refine opStep_value (v := .agg #[.int .i64 sv, .string oty, .string ofl]) (w' := wz) ?_ ⟨hGz.step (Below.refl _ _) rfl _, rfl, fun k _ _ _ h => h⟩
      simp only [execOp, evalS, e0]
      go_simp
    obtain _ | iz := iz
    · obtain rfl := Option.some.inj hiz
      have hs : Lz 13 = false := by
        cases h : Lz 13 with
        | false => rfl
        | true => rw [hcz 13 _ h rfl { on := 11, ground := .data } (by simp) rfl] at hlz; cases hlz
      refine opStep_value (v := .pointer (some ⟨wz.heap.size, 0, none⟩)) (w' := wz.alloc (.cells #[.string ⟨#[]⟩, .int .i64 0, .string ⟨#[]⟩] 138)) ?_ ⟨hGz.alloc (q := ⟨11, 13, 8, #[.string ⟨#[]⟩, .int .i64 0, .string ⟨#[]⟩], #[.string fnm, .int .i64 fk, .string fty], 138⟩) (by intro p hp; simp only [List.mem_cons, List.not_mem_nil, or_false] at hp; rcases hp with rfl | rfl <;> intro h <;> first | rfl | exact absurd h (Nat.ne_of_beq_eq_false rfl)) rfl (Nat.ne_of_beq_eq_false rfl) hs, trivial, fun k _ _ _ h => h⟩
      simp only [execOp]
      go_simp
    obtain _ | iz := iz
    · obtain rfl := Option.some.inj hiz
      have hs : Lz 14 = false := by
        cases h : Lz 14 with
        | false => rfl
        | true => rw [hcz 14 _ h rfl { on := 12, ground := .data } (by simp) rfl] at hlz; cases hlz
      refine opStep_value (v := .pointer (some ⟨wz.heap.size, 0, none⟩)) (w' := wz.alloc (.cells #[.int .i64 0, .string ⟨#[]⟩, .string ⟨#[]⟩] 148)) ?_ ⟨hGz.alloc (q := ⟨12, 14, 9, #[.int .i64 0, .string ⟨#[]⟩, .string ⟨#[]⟩], #[.int .i64 sv, .string oty, .string ofl], 148⟩) (by intro p hp; simp only [List.mem_cons, List.not_mem_nil, or_false] at hp; rcases hp with rfl | rfl <;> intro h <;> first | rfl | exact absurd h (Nat.ne_of_beq_eq_false rfl)) rfl (Nat.ne_of_beq_eq_false rfl) hs, trivial, fun k _ _ _ h => h⟩
      simp only [execOp]
      go_simp
    obtain _ | iz := iz
    · obtain rfl := Option.some.inj hiz
      have hb := haz { on := 11, ground := .data } (by simp) rfl
      obtain ⟨b, q1, q2, q3⟩ := hGz.box ⟨11, 13, 8, #[.string ⟨#[]⟩, .int .i64 0, .string ⟨#[]⟩], #[.string fnm, .int .i64 fk, .string fty], 138⟩ (by simp) hb
      rw [hlz] at q3
      simp only [Bool.false_eq_true, if_false] at q3
      replace q1 : stz 8 = _ := q1
      have e2 : stz 22 = .agg #[.string fnm, .int .i64 fk, .string fty] := hAz 5 (haz { on := 5, ground := .data } (by simp) rfl) h99
      obtain ⟨x0, x1, x2⟩ : wz.cell? ⟨b, 0, none⟩ = some (.string ⟨#[]⟩) ∧ wz.cell? ⟨b, 1, none⟩ = some (.int .i64 0) ∧ wz.cell? ⟨b, 2, none⟩ = some (.string ⟨#[]⟩) := by simp [World.cell?, q3]
      obtain ⟨y0, y1, y2⟩ : wz.frozen? ⟨b, 0, none⟩ = false ∧ wz.frozen? ⟨b, 1, none⟩ = false ∧ wz.frozen? ⟨b, 2, none⟩ = false := by simp [World.frozen?, q3]
      have g0 := heap_setCell_same _ b 0 _ 138 (.string fnm) q3
      have g1 := heap_setCell_same _ b 1 _ 138 (.int .i64 fk) g0
      have g2 := heap_setCell_same _ b 2 _ 138 (.string fty) g1
      refine opStep_skip (w' := ((wz.setCell ⟨b, 0, none⟩ (.string fnm)).setCell ⟨b, 1, none⟩ (.int .i64 fk)).setCell ⟨b, 2, none⟩ (.string fty)) ?_ ⟨hGz.store (q := ⟨11, 13, 8, #[.string ⟨#[]⟩, .int .i64 0, .string ⟨#[]⟩], #[.string fnm, .int .i64 fk, .string fty], 138⟩) (by intro p hp; simp only [List.mem_cons, List.not_mem_nil, or_false] at hp; rcases hp with rfl | rfl <;> intro h <;> first | rfl | exact absurd h (Nat.ne_of_beq_eq_false rfl)) rfl (by simp) (Nat.ne_of_beq_eq_false rfl) hb q1 q2 (by rw [g2]; rfl) ((((OnlyB.refl _ _).set 0 _).set 1 _).set 2 _) _, trivial, fun k _ _ _ h => h⟩
      simp only [execOp, evalS, q1, e2]
      go_simp
    obtain _ | iz := iz
    · obtain rfl := Option.some.inj hiz
      have hb := haz { on := 12, ground := .data } (by simp) rfl
      obtain ⟨b, q1, q2, q3⟩ := hGz.box ⟨12, 14, 9, #[.int .i64 0, .string ⟨#[]⟩, .string ⟨#[]⟩], #[.int .i64 sv, .string oty, .string ofl], 148⟩ (by simp) hb
      rw [hlz] at q3
      simp only [Bool.false_eq_true, if_false] at q3
      replace q1 : stz 9 = _ := q1
      have e2 : stz 27 = .agg #[.int .i64 sv, .string oty, .string ofl] := hAz 10 (haz { on := 10, ground := .data } (by simp) rfl) h99
      obtain ⟨x0, x1, x2⟩ : wz.cell? ⟨b, 0, none⟩ = some (.int .i64 0) ∧ wz.cell? ⟨b, 1, none⟩ = some (.string ⟨#[]⟩) ∧ wz.cell? ⟨b, 2, none⟩ = some (.string ⟨#[]⟩) := by simp [World.cell?, q3]
      obtain ⟨y0, y1, y2⟩ : wz.frozen? ⟨b, 0, none⟩ = false ∧ wz.frozen? ⟨b, 1, none⟩ = false ∧ wz.frozen? ⟨b, 2, none⟩ = false := by simp [World.frozen?, q3]
      have g0 := heap_setCell_same _ b 0 _ 148 (.int .i64 sv) q3
      have g1 := heap_setCell_same _ b 1 _ 148 (.string oty) g0
      have g2 := heap_setCell_same _ b 2 _ 148 (.string ofl) g1
      refine opStep_skip (w' := ((wz.setCell ⟨b, 0, none⟩ (.int .i64 sv)).setCell ⟨b, 1, none⟩ (.string oty)).setCell ⟨b, 2, none⟩ (.string ofl)) ?_ ⟨hGz.store (q := ⟨12, 14, 9, #[.int .i64 0, .string ⟨#[]⟩, .string ⟨#[]⟩], #[.int .i64 sv, .string oty, .string ofl], 148⟩) (by intro p hp; simp only [List.mem_cons, List.not_mem_nil, or_false] at hp; rcases hp with rfl | rfl <;> intro h <;> first | rfl | exact absurd h (Nat.ne_of_beq_eq_false rfl)) rfl (by simp) (Nat.ne_of_beq_eq_false rfl) hb q1 q2 (by rw [g2]; rfl) ((((OnlyB.refl _ _).set 0 _).set 1 _).set 2 _) _, trivial, fun k _ _ _ h => h⟩
      simp only [execOp, evalS, q1, e2]
      go_simp
    · exfalso
      have hlen : iz + 15 < 15 := (List.getElem?_eq_some_iff.1 hiz).1
      omega
  · intro Lz stz wz hGz _ hall _
    obtain ⟨b0, q0, r0, t0⟩ := hGz.box ⟨11, 13, 8, #[.string ⟨#[]⟩, .int .i64 0, .string ⟨#[]⟩], #[.string fnm, .int .i64 fk, .string fty], 138⟩ (by simp) (hall 11 (by decide))
    rw [show Lz 13 = true from hall 13 (by decide)] at t0
    obtain ⟨b1, q1, r1, t1⟩ := hGz.box ⟨12, 14, 9, #[.int .i64 0, .string ⟨#[]⟩, .string ⟨#[]⟩], #[.int .i64 sv, .string oty, .string ofl], 148⟩ (by simp) (hall 12 (by decide))
    rw [show Lz 14 = true from hall 14 (by decide)] at t1
    exact hQ stz wz b0 b1 hGz.below q0 r0 t0 q1 r1 t1
/-- picker's function: 'g := api.GotName: query.Called(p), Kind: field.Kind'. -/
def pickNewOps : List Oper := [
  { dst := some 11, op := Op.load 63 (Operand.tmp 1), type := 63, pos := "mean.go:93", after := #[], guard := none },
   { dst := some 12, op := Op.call { callee := Callee.value (Operand.func 30), args := #[Operand.tmp 11], argTypes := #[63] }, type := 9, pos := "mean.go:93", after := #[{ on := 0, ground := Ground.data }], guard := none },
   { dst := some 13, op := Op.fieldAddr 138 (Operand.tmp 2) 1, type := 0, pos := "mean.go:93", after := #[], guard := none },
   { dst := some 14, op := Op.load 3 (Operand.tmp 13), type := 3, pos := "mean.go:93", after := #[{ on := 2, ground := Ground.data }], guard := none },
   { dst := some 15, op := Op.build 66 #[(0, Operand.tmp 12), (1, Operand.tmp 14)], type := 66, pos := "mean.go:93", after := #[{ on := 1, ground := Ground.data }, { on := 3, ground := Ground.data }], guard := none },
   { dst := some 8, op := Op.alloc 66, type := 0, pos := "mean.go:93", after := #[], guard := none },
   { dst := none, op := Op.store 66 (Operand.tmp 8) (Operand.tmp 15), type := 0, pos := "mean.go:93", after := #[{ on := 5, ground := Ground.data }, { on := 4, ground := Ground.data }, { on := 1, ground := Ground.chain }, { on := 0, ground := Ground.phase }, { on := 1, ground := Ground.phase }, { on := 2, ground := Ground.phase }, { on := 3, ground := Ground.phase }, { on := 4, ground := Ground.phase }, { on := 5, ground := Ground.phase }], guard := none }]
set_option maxRecDepth 100000 in
set_option maxHeartbeats 4000000 in
theorem pickNew {Q : Exit → Act → World → Prop} {a0 : Act} {w5 : World} {bp bf pn pc : Nat} {A : Option Addr} {nk pf nm : ByteArray} {kd : Int}
    (hsz : [11, 12, 13, 14, 15, 8].all (fun d => decide (d < a0.tmps.size)) = true)
    (s1 : slots a0 1 = .pointer (some ⟨bp, 0, none⟩)) (s2 : slots a0 2 = .pointer (some ⟨bf, 0, none⟩)) (c0 : w5.cell? ⟨bp, 0, none⟩ = some (.string nk)) (c1 : w5.cell? ⟨bp, 1, none⟩ = some (.string pf)) (c2 : w5.cell? ⟨bp, 2, none⟩ = some (.slice A pn pc)) (cf : w5.cell? ⟨bf, 1, none⟩ = some (.int .i64 kd))
    (hcall : ∀ w1, Below w5.heap.size w5 w1 → Calls Try.prog 30 #[.agg #[.string nk, .string pf, .slice A pn pc]] w1 fun e w' => e = .returned (.string nm) ∧ Below w1.heap.size w1 w')
    (hQ : ∀ s w' b0, Below w5.heap.size w5 w' → s 8 = .pointer (some ⟨b0, 0, none⟩) → w5.heap.size ≤ b0 → w'.heap[b0]? = some (.cells #[.string nm, .int .i64 kd, .bool false, .string ⟨#[]⟩, .slice none 0 0, .slice none 0 0] 66 (0, 0)) → Q .normal (putAll a0 s [11, 12, 13, 14, 15, 8]) w') :
    (Code.region 1 pickNewOps.toArray true).wp Try.prog Q a0 w5 := by
  refine wp_region_as (by kernel_rfl) (by kernel_rfl) [11, 12, 13, 14, 15, 8] (by kernel_rfl) hsz (by kernel_rfl) (fun _ => 99) (asV [5, 6] [.agg #[.string nk, .string pf, .slice A pn pc], .string nm, .pointer (some ⟨bf, 1, none⟩), .int .i64 kd, .agg #[.string nm, .int .i64 kd, .bool false, .string ⟨#[]⟩, .slice none 0 0, .slice none 0 0], undef, undef]) (boxG w5 [⟨5, 6, 8, #[.string ⟨#[]⟩, .int .i64 0, .bool false, .string ⟨#[]⟩, .slice none 0 0, .slice none 0 0], #[.string nm, .int .i64 kd, .bool false, .string ⟨#[]⟩, .slice none 0 0, .slice none 0 0], 66⟩]) boxG.start ?_ ?_
  · intro Lz stz wz iz oz hGz hLz hcz hAz hFz hiz hlz haz
    have h99 : Lz 99 = false := by
      cases h : Lz 99 with
      | false => rfl
      | true => exact absurd (hLz 99 h) (by decide)
    obtain _ | iz := iz
    · obtain rfl := Option.some.inj hiz
      have e0 : stz 1 = .pointer (some ⟨bp, 0, none⟩) := (hFz 1 (by decide)).trans s1
      have z0 := keptCell hGz.below c0
      have z1 := keptCell hGz.below c1
      have z2 := keptCell hGz.below c2
      refine opStep_value (v := .agg #[.string nk, .string pf, .slice A pn pc]) (w' := wz) ?_ ⟨hGz.step (Below.refl _ _) rfl _, rfl, fun k _ _ _ h => h⟩
      simp only [execOp, evalS, e0]
      go_simp
    obtain _ | iz := iz
    · obtain rfl := Option.some.inj hiz
      have e0 : stz 11 = .agg #[.string nk, .string pf, .slice A pn pc] := hAz 0 (haz { on := 0, ground := .data } (by simp) rfl) h99
      refine opStep_fn 30 #[.tmp 11] #[63] rfl (enters_of Try.func30 (by kernel_rfl) rfl) #[.agg #[.string nk, .string pf, .slice A pn pc]] (by simp [evalS, e0]) ((hcall wz hGz.below).mono fun e w' h => ?_)
      obtain ⟨rfl, hw'⟩ := h
      exact ⟨_, rfl, hGz.step hw' rfl _, rfl, fun k _ _ _ h => h⟩
    obtain _ | iz := iz
    · obtain rfl := Option.some.inj hiz
      have e0 : stz 2 = .pointer (some ⟨bf, 0, none⟩) := (hFz 2 (by decide)).trans s2
      refine opStep_value (v := .pointer (some ⟨bf, 1, none⟩)) (w' := wz) ?_ ⟨hGz.step (Below.refl _ _) rfl _, rfl, fun k _ _ _ h => h⟩
      simp only [execOp, evalS, e0]
      go_simp
    obtain _ | iz := iz
    · obtain rfl := Option.some.inj hiz
      have e0 : stz 13 = .pointer (some ⟨bf, 1, none⟩) := hAz 2 (haz { on := 2, ground := .data } (by simp) rfl) h99
      have z0 := keptCell hGz.below cf
      refine opStep_value (v := .int .i64 kd) (w' := wz) ?_ ⟨hGz.step (Below.refl _ _) rfl _, rfl, fun k _ _ _ h => h⟩
      simp only [execOp, evalS, e0]
      go_simp
    obtain _ | iz := iz
    · obtain rfl := Option.some.inj hiz
      have e0 : stz 12 = .string nm := hAz 1 (haz { on := 1, ground := .data } (by simp) rfl) h99
      have e1 : stz 14 = .int .i64 kd := hAz 3 (haz { on := 3, ground := .data } (by simp) rfl) h99
      refine opStep_value (v := .agg #[.string nm, .int .i64 kd, .bool false, .string ⟨#[]⟩, .slice none 0 0, .slice none 0 0]) (w' := wz) ?_ ⟨hGz.step (Below.refl _ _) rfl _, rfl, fun k _ _ _ h => h⟩
      simp only [execOp, evalS]
      go_simp
    obtain _ | iz := iz
    · obtain rfl := Option.some.inj hiz
      have hs : Lz 6 = false := by
        cases h : Lz 6 with
        | false => rfl
        | true => rw [hcz 6 _ h rfl { on := 5, ground := .data } (by simp) rfl] at hlz; cases hlz
      refine opStep_value (v := .pointer (some ⟨wz.heap.size, 0, none⟩)) (w' := wz.alloc (.cells #[.string ⟨#[]⟩, .int .i64 0, .bool false, .string ⟨#[]⟩, .slice none 0 0, .slice none 0 0] 66)) ?_ ⟨hGz.alloc (q := ⟨5, 6, 8, #[.string ⟨#[]⟩, .int .i64 0, .bool false, .string ⟨#[]⟩, .slice none 0 0, .slice none 0 0], #[.string nm, .int .i64 kd, .bool false, .string ⟨#[]⟩, .slice none 0 0, .slice none 0 0], 66⟩) (by intro p hp; simp only [List.mem_cons, List.not_mem_nil, or_false] at hp; subst hp; intro _; rfl) rfl (Nat.ne_of_beq_eq_false rfl) hs, trivial, fun k _ _ _ h => h⟩
      simp only [execOp]
      go_simp
    obtain _ | iz := iz
    · obtain rfl := Option.some.inj hiz
      have hb := haz { on := 5, ground := .data } (by simp) rfl
      obtain ⟨b, q1, q2, q3⟩ := hGz.box ⟨5, 6, 8, #[.string ⟨#[]⟩, .int .i64 0, .bool false, .string ⟨#[]⟩, .slice none 0 0, .slice none 0 0], #[.string nm, .int .i64 kd, .bool false, .string ⟨#[]⟩, .slice none 0 0, .slice none 0 0], 66⟩ (by simp) hb
      rw [hlz] at q3
      simp only [Bool.false_eq_true, if_false] at q3
      replace q1 : stz 8 = _ := q1
      have e2 : stz 15 = .agg #[.string nm, .int .i64 kd, .bool false, .string ⟨#[]⟩, .slice none 0 0, .slice none 0 0] := hAz 4 (haz { on := 4, ground := .data } (by simp) rfl) h99
      obtain ⟨x0, x1, x2, x3, x4, x5⟩ : wz.cell? ⟨b, 0, none⟩ = some (.string ⟨#[]⟩) ∧ wz.cell? ⟨b, 1, none⟩ = some (.int .i64 0) ∧ wz.cell? ⟨b, 2, none⟩ = some (.bool false) ∧ wz.cell? ⟨b, 3, none⟩ = some (.string ⟨#[]⟩) ∧ wz.cell? ⟨b, 4, none⟩ = some (.slice none 0 0) ∧ wz.cell? ⟨b, 5, none⟩ = some (.slice none 0 0) := by simp [World.cell?, q3]
      obtain ⟨y0, y1, y2, y3, y4, y5⟩ : wz.frozen? ⟨b, 0, none⟩ = false ∧ wz.frozen? ⟨b, 1, none⟩ = false ∧ wz.frozen? ⟨b, 2, none⟩ = false ∧ wz.frozen? ⟨b, 3, none⟩ = false ∧ wz.frozen? ⟨b, 4, none⟩ = false ∧ wz.frozen? ⟨b, 5, none⟩ = false := by simp [World.frozen?, q3]
      have g0 := heap_setCell_same _ b 0 _ 66 (.string nm) q3
      have g1 := heap_setCell_same _ b 1 _ 66 (.int .i64 kd) g0
      have g2 := heap_setCell_same _ b 2 _ 66 (.bool false) g1
      have g3 := heap_setCell_same _ b 3 _ 66 (.string ⟨#[]⟩) g2
      have g4 := heap_setCell_same _ b 4 _ 66 (.slice none 0 0) g3
      have g5 := heap_setCell_same _ b 5 _ 66 (.slice none 0 0) g4
      refine opStep_skip (w' := (((((wz.setCell ⟨b, 0, none⟩ (.string nm)).setCell ⟨b, 1, none⟩ (.int .i64 kd)).setCell ⟨b, 2, none⟩ (.bool false)).setCell ⟨b, 3, none⟩ (.string ⟨#[]⟩)).setCell ⟨b, 4, none⟩ (.slice none 0 0)).setCell ⟨b, 5, none⟩ (.slice none 0 0)) ?_ ⟨hGz.store (q := ⟨5, 6, 8, #[.string ⟨#[]⟩, .int .i64 0, .bool false, .string ⟨#[]⟩, .slice none 0 0, .slice none 0 0], #[.string nm, .int .i64 kd, .bool false, .string ⟨#[]⟩, .slice none 0 0, .slice none 0 0], 66⟩) (by intro p hp; simp only [List.mem_cons, List.not_mem_nil, or_false] at hp; subst hp; intro _; rfl) rfl (by simp) (Nat.ne_of_beq_eq_false rfl) hb q1 q2 (by rw [g5]; rfl) (((((((OnlyB.refl _ _).set 0 _).set 1 _).set 2 _).set 3 _).set 4 _).set 5 _) _, trivial, fun k _ _ _ h => h⟩
      simp only [execOp, evalS, q1, e2]
      go_simp
    · exfalso
      have hlen : iz + 7 < 7 := (List.getElem?_eq_some_iff.1 hiz).1
      omega
  · intro Lz stz wz hGz _ hall _
    obtain ⟨b0, q0, r0, t0⟩ := hGz.box ⟨5, 6, 8, #[.string ⟨#[]⟩, .int .i64 0, .bool false, .string ⟨#[]⟩, .slice none 0 0, .slice none 0 0], #[.string nm, .int .i64 kd, .bool false, .string ⟨#[]⟩, .slice none 0 0, .slice none 0 0], 66⟩ (by simp) (hall 5 (by decide))
    rw [show Lz 6 = true from hall 6 (by decide)] at t0
    exact hQ stz wz b0 hGz.below q0 r0 t0
end Go.Proofs.Ytikiadefdcfdkab
