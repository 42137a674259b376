/-
  'out.Found, out.Vals = append(out.Found, x != nil), append(out.Vals, vals)' in stitchref4.Answer, in whatever order.
-/
import Derived.Test.YtjjggefmmeminabSvSameReg
namespace Go.Proofs.Ytjjggefmmeminab
open Go.RowKit Go.Sort

/-- The statement's operations, as the translation has them. -/
def ans21 : List Oper := [
  { dst := some 68, op := Op.fieldAddr 46 (Operand.tmp 7) 0, type := 0, pos := "ref.go:307", after := #[], guard := none },
   { dst := some 69, op := Op.load 43 (Operand.tmp 68), type := 43, pos := "ref.go:307", after := #[{ on := 0, ground := Ground.data }], guard := none },
   { dst := some 70, op := Op.move (Operand.tmp 10), type := 93, pos := "ref.go:307", after := #[], guard := none },
   { dst := some 71, op := Op.binOp BinOp.neq 93 (Operand.tmp 70) (Operand.const (Value.pointer none)) 93, type := 4, pos := "ref.go:307", after := #[{ on := 2, ground := Ground.data }], guard := none },
   { dst := some 72, op := Op.buildSlice 43 1 #[(0, Operand.tmp 71)], type := 43, pos := "ref.go:307", after := #[{ on := 3, ground := Ground.data }], guard := none },
   { dst := some 73, op := Op.call { callee := Callee.builtin Builtin.append, args := #[Operand.tmp 69, Operand.tmp 72], argTypes := #[43, 43] }, type := 43, pos := "ref.go:307", after := #[{ on := 1, ground := Ground.data }, { on := 4, ground := Ground.data }], guard := none },
   { dst := some 74, op := Op.fieldAddr 46 (Operand.tmp 7) 1, type := 0, pos := "ref.go:307", after := #[], guard := none },
   { dst := some 75, op := Op.load 44 (Operand.tmp 74), type := 44, pos := "ref.go:307", after := #[{ on := 6, ground := Ground.data }], guard := none },
   { dst := some 76, op := Op.move (Operand.tmp 11), type := 54, pos := "ref.go:307", after := #[], guard := none },
   { dst := some 77, op := Op.buildSlice 44 1 #[(0, Operand.tmp 76)], type := 44, pos := "ref.go:307", after := #[{ on := 8, ground := Ground.data }], guard := none },
   { dst := some 78, op := Op.call { callee := Callee.builtin Builtin.append, args := #[Operand.tmp 75, Operand.tmp 77], argTypes := #[44, 44] }, type := 44, pos := "ref.go:307", after := #[{ on := 7, ground := Ground.data }, { on := 9, ground := Ground.data }, { on := 5, ground := Ground.chain }], guard := none },
   { dst := some 79, op := Op.fieldAddr 46 (Operand.tmp 7) 0, type := 0, pos := "ref.go:307", after := #[{ on := 0, ground := Ground.phase }, { on := 1, ground := Ground.phase }, { on := 2, ground := Ground.phase }, { on := 3, ground := Ground.phase }, { on := 4, ground := Ground.phase }, { on := 5, ground := Ground.phase }, { on := 6, ground := Ground.phase }, { on := 7, ground := Ground.phase }, { on := 8, ground := Ground.textOnly Departure.lateStores }, { on := 9, ground := Ground.textOnly Departure.lateStores }, { on := 10, ground := Ground.textOnly Departure.lateStoresUnsure }], guard := none },
   { dst := none, op := Op.store 43 (Operand.tmp 79) (Operand.tmp 73), type := 0, pos := "ref.go:307", after := #[{ on := 11, ground := Ground.data }, { on := 5, ground := Ground.data }, { on := 10, ground := Ground.chain }, { on := 0, ground := Ground.phase }, { on := 1, ground := Ground.phase }, { on := 2, ground := Ground.phase }, { on := 3, ground := Ground.phase }, { on := 4, ground := Ground.phase }, { on := 5, ground := Ground.phase }, { on := 6, ground := Ground.phase }, { on := 7, ground := Ground.phase }, { on := 8, ground := Ground.textOnly Departure.lateStores }, { on := 9, ground := Ground.textOnly Departure.lateStores }, { on := 10, ground := Ground.textOnly Departure.lateStoresUnsure }], guard := none },
   { dst := some 80, op := Op.fieldAddr 46 (Operand.tmp 7) 1, type := 0, pos := "ref.go:307", after := #[{ on := 0, ground := Ground.phase }, { on := 1, ground := Ground.phase }, { on := 2, ground := Ground.phase }, { on := 3, ground := Ground.phase }, { on := 4, ground := Ground.phase }, { on := 5, ground := Ground.phase }, { on := 6, ground := Ground.phase }, { on := 7, ground := Ground.phase }, { on := 8, ground := Ground.phase }, { on := 9, ground := Ground.phase }, { on := 10, ground := Ground.phase }, { on := 11, ground := Ground.phase }, { on := 12, ground := Ground.phase }], guard := none },
   { dst := none, op := Op.store 44 (Operand.tmp 80) (Operand.tmp 78), type := 0, pos := "ref.go:307", after := #[{ on := 13, ground := Ground.data }, { on := 10, ground := Ground.data }, { on := 12, ground := Ground.chain }, { on := 0, ground := Ground.phase }, { on := 1, ground := Ground.phase }, { on := 2, ground := Ground.phase }, { on := 3, ground := Ground.phase }, { on := 4, ground := Ground.phase }, { on := 5, ground := Ground.phase }, { on := 6, ground := Ground.phase }, { on := 7, ground := Ground.phase }, { on := 8, ground := Ground.phase }, { on := 9, ground := Ground.phase }, { on := 10, ground := Ground.phase }, { on := 11, ground := Ground.phase }, { on := 12, ground := Ground.phase }], guard := none }]
def tsR (t : Nat) : Bool := t == 46
structure aG (w5 : World) (br k : Nat) (fv vv v : Value) (fd : Bool) (f sv : Nat → Value) (L : Nat → Bool) (s : Nat → Value) (w : World) : Prop where
  steady : Steady tsA br w5 w
  found0 : L 5 = false → Row w br 4 1 fv k f
  found1 : L 5 = true → ∃ a c, s 73 = .slice a (k + 1) c ∧ Row w br 4 1 (.slice a (k + 1) c) (k + 1) (fun j => if j < k * 1 then f j else .bool fd)
  vals0 : L 10 = false → Row w br 54 1 vv k sv
  vals1 : L 10 = true → ∃ a c, s 78 = .slice a (k + 1) c ∧ Row w br 54 1 (.slice a (k + 1) c) (k + 1) (fun j => if j < k * 1 then sv j else v)
  arr4 : L 4 = true → L 5 = false → ∃ b, s 72 = .slice (some ⟨b, 0, none⟩) 1 1 ∧ w5.heap.size ≤ b ∧ w.heap[b]? = some (.cells #[.bool fd] 4 (0, 0))
  arr9 : L 9 = true → L 10 = false → ∃ b, s 77 = .slice (some ⟨b, 0, none⟩) 1 1 ∧ w5.heap.size ≤ b ∧ w.heap[b]? = some (.cells #[v] 54 (0, 0))
  box : w.heap[br]? = some (.cells #[if L 12 then s 73 else fv, if L 14 then s 78 else vv] 46 (0, 0))
theorem aG.pure {w5 : World} {br k : Nat} {fv vv v : Value} {fd : Bool} {f sv : Nat → Value} {L : Nat → Bool} {s : Nat → Value} {w : World} (h : aG w5 br k fv vv v fd f sv L s w) {i d : Nat} (hi : i ≠ 4 ∧ i ≠ 5 ∧ i ≠ 9 ∧ i ≠ 10 ∧ i ≠ 12 ∧ i ≠ 14) (hd : d ≠ 72 ∧ d ≠ 73 ∧ d ≠ 77 ∧ d ≠ 78) (u : Value) : aG w5 br k fv vv v fd f sv (also L i) (updS s (some d) u) w := by
  obtain ⟨i4, i5, i9, i10, i12, i14⟩ := hi
  obtain ⟨d2, d3, d7, d8⟩ := hd
  have e4 : also L i 4 = L 4 := also_ne i4.symm
  have e5 : also L i 5 = L 5 := also_ne i5.symm
  have e9 : also L i 9 = L 9 := also_ne i9.symm
  have e10 : also L i 10 = L 10 := also_ne i10.symm
  have e12 : also L i 12 = L 12 := also_ne i12.symm
  have e14 : also L i 14 = L 14 := also_ne i14.symm
  have q2 : updS s (some d) u 72 = s 72 := updS_ne d2.symm
  have q3 : updS s (some d) u 73 = s 73 := updS_ne d3.symm
  have q7 : updS s (some d) u 77 = s 77 := updS_ne d7.symm
  have q8 : updS s (some d) u 78 = s 78 := updS_ne d8.symm
  exact ⟨h.steady, by rw [e5]; exact h.found0, by rw [e5, q3]; exact h.found1, by rw [e10]; exact h.vals0, by rw [e10, q8]; exact h.vals1, by rw [e4, e5, q2]; exact h.arr4, by rw [e9, e10, q7]; exact h.arr9, by rw [e12, e14, q3, q8]; exact h.box⟩
def aA (vals : List Value) (_ : Nat → Bool) (k : Nat) (x : Value) (_ : World) : Prop := if k = 4 ∨ k = 5 ∨ k = 9 ∨ k = 10 ∨ k = 12 ∨ k = 14 then True else x = vals.getD k undef

set_option maxRecDepth 100000 in
set_option maxHeartbeats 4000000 in
theorem ans_region {Q : Exit → Act → World → Prop} {a0 : Act} {w5 : World} {br k m sc : Nat} {pv sa : Option Addr} {fv vv : Value} {f sv : Nat → Value} {iB iV : TypeInfo}
    (bi : Try.prog.info? 4 = some iB) (bz0 : iB.zero = some (.bool false)) (bz1 : iB.size = 1) (bz2 : iB.bytes = 1) (vi : Try.prog.info? 54 = some iV) (vz0 : iV.zero = some (.slice none 0 0)) (vz1 : iV.size = 1) (vz2 : iV.bytes = 24)
    (hsz : [68, 69, 70, 71, 72, 73, 74, 75, 76, 77, 78, 79, 80].all (fun d => decide (d < a0.tmps.size)) = true) (hk : (k + 1) * 16 ≤ 140737488355328)
    (s7 : slots a0 7 = .pointer (some ⟨br, 0, none⟩)) (s10 : slots a0 10 = .pointer pv) (s11 : slots a0 11 = .slice sa m sc)
    (hF : Row w5 br 4 1 fv k f) (hV : Row w5 br 54 1 vv k sv) (hb : w5.heap[br]? = some (.cells #[fv, vv] 46 (0, 0)))
    (hQ : ∀ s w' fa fc va vc, Steady tsA br w5 w' → w'.heap[br]? = some (.cells #[.slice fa (k + 1) fc, .slice va (k + 1) vc] 46 (0, 0)) → Row w' br 4 1 (.slice fa (k + 1) fc) (k + 1) (fun j => if j < k * 1 then f j else .bool pv.isSome) → Row w' br 54 1 (.slice va (k + 1) vc) (k + 1) (fun j => if j < k * 1 then sv j else .slice sa m sc) → Q .normal (putAll a0 s [68, 69, 70, 71, 72, 73, 74, 75, 76, 77, 78, 79, 80]) w') :
    (Code.region 21 ans21.toArray true).wp Try.prog Q a0 w5 := by
  have hbr : br < w5.heap.size := lt_of_block hb
  refine wp_region_as (by kernel_rfl) (by kernel_rfl) [68, 69, 70, 71, 72, 73, 74, 75, 76, 77, 78, 79, 80] (by kernel_rfl) hsz (by kernel_rfl) (fun _ => 99) (aA [Value.pointer (some ⟨br, 0, none⟩), fv, .pointer pv, .bool pv.isSome, undef, undef, Value.pointer (some ⟨br, 1, none⟩), vv, .slice sa m sc, undef, undef, Value.pointer (some ⟨br, 0, none⟩), undef, Value.pointer (some ⟨br, 1, none⟩), undef]) (aG w5 br k fv vv (.slice sa m sc) pv.isSome f sv) ⟨⟨(Below.refl _ _).drew, fun _ _ _ => rfl⟩, (fun _ => hF.kept (Below.refl _ _).drew), (fun h => by cases h), (fun _ => hV.kept (Below.refl _ _).drew), (fun h => by cases h), (fun h => by cases h), (fun h => by cases h), hb⟩ ?_ ?_
  · intro L st wz i o hG hL hcl hA hFr hi' hl ha
    have h99 : L 99 = false := by
      cases h : L 99 with
      | false => rfl
      | true => exact absurd (hL 99 h) (by decide)
    have hz : w5.heap.size ≤ wz.heap.size := hG.steady.below.size
    have hzb : br ≤ wz.heap.size := by omega
    have h12 : L 12 = true → L 5 = true := fun h => hcl 12 _ h rfl { on := 5, ground := .data } (by simp) rfl
    have h14 : L 14 = true → L 10 = true := fun h => hcl 14 _ h rfl { on := 10, ground := .data } (by simp) rfl
    have h5 : L 5 = true → L 4 = true := fun h => hcl 5 _ h rfl { on := 4, ground := .data } (by simp) rfl
    have h10 : L 10 = true → L 9 = true := fun h => hcl 10 _ h rfl { on := 9, ground := .data } (by simp) rfl
    obtain _ | i := i
    · obtain rfl := Option.some.inj hi'
      have e1 : st 7 = Value.pointer (some ⟨br, 0, none⟩) := (hFr 7 (by decide)).trans s7
      refine opStep_value (v := Value.pointer (some ⟨br, 0, none⟩)) (w' := wz) ?_ ⟨hG.pure (by decide) (by decide) _, rfl, fun k _ _ _ h => h⟩
      simp only [execOp, evalS, e1]
      go_simp
    obtain _ | i := i
    · obtain rfl := Option.some.inj hi'
      have e1 : st 68 = Value.pointer (some ⟨br, 0, none⟩) := hA 0 (ha { on := 0, ground := .data } (by simp) rfl) h99
      have hn5 : L 5 = false := by
        cases h : L 5 with
        | false => rfl
        | true => rw [hcl 5 _ h rfl { on := 1, ground := .data } (by simp) rfl] at hl; cases hl
      have hn12 : L 12 = false := by
        cases h : L 12 with
        | false => rfl
        | true => rw [h12 h] at hn5; cases hn5
      have hbx := hG.box
      rw [hn12] at hbx
      have cz : wz.cell? ⟨br, 0, none⟩ = some fv := by simp [World.cell?, hbx]
      refine opStep_value (v := fv) (w' := wz) ?_ ⟨hG.pure (by decide) (by decide) _, rfl, fun k _ _ _ h => h⟩
      simp only [execOp, evalS, e1]
      go_simp
    obtain _ | i := i
    · obtain rfl := Option.some.inj hi'
      have e1 : st 10 = .pointer pv := (hFr 10 (by decide)).trans s10
      exact opStep_value (v := st 10) (w' := wz) rfl ⟨hG.pure (by decide) (by decide) _, e1, fun k _ _ _ h => h⟩
    obtain _ | i := i
    · obtain rfl := Option.some.inj hi'
      have e1 : st 70 = .pointer pv := hA 2 (ha { on := 2, ground := .data } (by simp) rfl) h99
      refine opStep_value (v := .bool pv.isSome) (w' := wz) ?_ ⟨hG.pure (by decide) (by decide) _, rfl, fun k _ _ _ h => h⟩
      simp only [execOp, evalS, e1]
      cases pv <;> go_simp
    obtain _ | i := i
    · obtain rfl := Option.some.inj hi'
      have e1 : st 71 = .bool pv.isSome := hA 3 (ha { on := 3, ground := .data } (by simp) rfl) h99
      have hn : L 5 = false := by
        cases h : L 5 with
        | false => rfl
        | true => rw [h5 h] at hl; cases hl
      have hB := below1 wz (Obj.cells #[.bool pv.isSome] 4)
      refine opStep_value (v := .slice (some ⟨wz.heap.size, 0, none⟩) 1 1) (w' := wz.alloc (.cells #[.bool pv.isSome] 4)) ?_ ⟨⟨hG.steady.trans (steady_new hB hzb), ?_, ?_, ?_, ?_, ?_, ?_, ?_⟩, trivial, fun k _ _ _ h => h⟩
      · simp only [execOp, evalS]
        go_simp
      · intro h; rw [also_ne (by decide)] at h; exact (hG.found0 h).kept hB
      · intro h; rw [also_ne (by decide)] at h; obtain ⟨a, c, r1, r2⟩ := hG.found1 h; exact ⟨a, c, (updS_ne (by decide)).trans r1, r2.kept hB⟩
      · intro h; rw [also_ne (by decide)] at h; exact (hG.vals0 h).kept hB
      · intro h; rw [also_ne (by decide)] at h; obtain ⟨a, c, r1, r2⟩ := hG.vals1 h; exact ⟨a, c, (updS_ne (by decide)).trans r1, r2.kept hB⟩
      · intro _ _; exact ⟨wz.heap.size, updS_eq, hz, heap_alloc_new _ _⟩
      · intro h h'; rw [also_ne (by decide)] at h h'; obtain ⟨b, r1, r2, r3⟩ := hG.arr9 h h'; exact ⟨b, (updS_ne (by decide)).trans r1, r2, (hB.block _ (lt_of_block r3)).trans r3⟩
      · rw [also_ne (by decide), also_ne (by decide), updS_ne (by decide), updS_ne (by decide)]; exact (hB.block _ (lt_of_block hG.box)).trans hG.box
    obtain _ | i := i
    · obtain rfl := Option.some.inj hi'
      have e1 : st 69 = fv := hA 1 (ha { on := 1, ground := .data } (by simp) rfl) h99
      obtain ⟨b, e2, hbb, hbk⟩ := hG.arr4 (ha { on := 4, ground := .data } (by simp) rfl) hl
      have hR := hG.found0 hl
      have cb : wz.cell? ⟨b, 0, none⟩ = some (.bool pv.isSome) := by simp [World.cell?, hbk]
      have e3 : evalS st (.tmp 69) = fv := e1
      have e4 : evalS st (.tmp 72) = .slice (some ⟨b, 0, none⟩) 1 1 := e2
      obtain ⟨v', w', hr, hrow, hg, -⟩ := hR.far (P := Try.prog) 43 43 iB _ 1 Try.underlying43 bi bz0 bz1 bz2 rfl (by decide) (some ⟨b, 0, none⟩) 1 1 (fun _ => .bool pv.isSome) (fun j hj => ⟨b, 0, rfl, by rw [show 0 + j = 0 by omega]; exact cb⟩) (fun h => by cases h) (fun _ _ => rfl) (by unfold maxLen; omega) (by omega) hzb
      obtain ⟨a9, c9, rfl, -⟩ := hrow.slice
      have hS : Steady tsA br wz w' := steady_grown hR (by decide) hg hzb
      refine opStep_value (v := .slice a9 (k + 1) c9) (w' := w') ?_ ⟨⟨hG.steady.trans hS, ?_, ?_, ?_, ?_, ?_, ?_, ?_⟩, trivial, fun k _ _ _ h => h⟩
      · simp only [execOp, resolve, invoke, builtin, Sem.run_bind, Sem.run_pure, Result.andThen_ok, List.map_toArray, List.map_cons, List.map_nil, e3, e4, hr]
      · intro h; rw [also_eq] at h; cases h
      · intro _; exact ⟨a9, c9, updS_eq, hrow⟩
      · intro h; rw [also_ne (by decide)] at h; exact (hG.vals0 h).grown hg (fun q hq e => (hR.ne (hG.vals0 h) (by decide) e) hq)
      · intro h; rw [also_ne (by decide)] at h; obtain ⟨a, c, r1, r2⟩ := hG.vals1 h; exact ⟨a, c, (updS_ne (by decide)).trans r1, r2.grown hg (fun q hq e => (hR.ne r2 (by decide) e) hq)⟩
      · intro _ h; rw [also_eq] at h; cases h
      · intro h h'; rw [also_ne (by decide)] at h h'; obtain ⟨b9, r1, r2, r3⟩ := hG.arr9 h h'; exact ⟨b9, (updS_ne (by decide)).trans r1, r2, box_stands r3 hR (by decide) hg⟩
      · have hn12 : L 12 = false := by
          cases h : L 12 with
          | false => rfl
          | true => rw [h12 h] at hl; cases hl
        rw [also_ne (by decide), also_ne (by decide), updS_ne (show 78 ≠ 73 by decide), hn12]
        have hbx := hG.box
        rw [hn12] at hbx
        exact box_stands hbx hR (by decide) hg
    obtain _ | i := i
    · obtain rfl := Option.some.inj hi'
      have e1 : st 7 = Value.pointer (some ⟨br, 0, none⟩) := (hFr 7 (by decide)).trans s7
      refine opStep_value (v := Value.pointer (some ⟨br, 1, none⟩)) (w' := wz) ?_ ⟨hG.pure (by decide) (by decide) _, rfl, fun k _ _ _ h => h⟩
      simp only [execOp, evalS, e1]
      go_simp
    obtain _ | i := i
    · obtain rfl := Option.some.inj hi'
      have e1 : st 74 = Value.pointer (some ⟨br, 1, none⟩) := hA 6 (ha { on := 6, ground := .data } (by simp) rfl) h99
      have hn10 : L 10 = false := by
        cases h : L 10 with
        | false => rfl
        | true => rw [hcl 10 _ h rfl { on := 7, ground := .data } (by simp) rfl] at hl; cases hl
      have hn14 : L 14 = false := by
        cases h : L 14 with
        | false => rfl
        | true => rw [h14 h] at hn10; cases hn10
      have hbx := hG.box
      rw [hn14] at hbx
      have cz : wz.cell? ⟨br, 1, none⟩ = some vv := by simp [World.cell?, hbx]
      refine opStep_value (v := vv) (w' := wz) ?_ ⟨hG.pure (by decide) (by decide) _, rfl, fun k _ _ _ h => h⟩
      simp only [execOp, evalS, e1]
      go_simp
    obtain _ | i := i
    · obtain rfl := Option.some.inj hi'
      have e1 : st 11 = .slice sa m sc := (hFr 11 (by decide)).trans s11
      exact opStep_value (v := st 11) (w' := wz) rfl ⟨hG.pure (by decide) (by decide) _, e1, fun k _ _ _ h => h⟩
    obtain _ | i := i
    · obtain rfl := Option.some.inj hi'
      have e1 : st 76 = .slice sa m sc := hA 8 (ha { on := 8, ground := .data } (by simp) rfl) h99
      have hn : L 10 = false := by
        cases h : L 10 with
        | false => rfl
        | true => rw [h10 h] at hl; cases hl
      have hB := below1 wz (Obj.cells #[.slice sa m sc] 54)
      refine opStep_value (v := .slice (some ⟨wz.heap.size, 0, none⟩) 1 1) (w' := wz.alloc (.cells #[.slice sa m sc] 54)) ?_ ⟨⟨hG.steady.trans (steady_new hB hzb), ?_, ?_, ?_, ?_, ?_, ?_, ?_⟩, trivial, fun k _ _ _ h => h⟩
      · simp only [execOp, evalS]
        go_simp
      · intro h; rw [also_ne (by decide)] at h; exact (hG.found0 h).kept hB
      · intro h; rw [also_ne (by decide)] at h; obtain ⟨a, c, r1, r2⟩ := hG.found1 h; exact ⟨a, c, (updS_ne (by decide)).trans r1, r2.kept hB⟩
      · intro h; rw [also_ne (by decide)] at h; exact (hG.vals0 h).kept hB
      · intro h; rw [also_ne (by decide)] at h; obtain ⟨a, c, r1, r2⟩ := hG.vals1 h; exact ⟨a, c, (updS_ne (by decide)).trans r1, r2.kept hB⟩
      · intro h h'; rw [also_ne (by decide)] at h h'; obtain ⟨b, r1, r2, r3⟩ := hG.arr4 h h'; exact ⟨b, (updS_ne (by decide)).trans r1, r2, (hB.block _ (lt_of_block r3)).trans r3⟩
      · intro _ _; exact ⟨wz.heap.size, updS_eq, hz, heap_alloc_new _ _⟩
      · rw [also_ne (by decide), also_ne (by decide), updS_ne (by decide), updS_ne (by decide)]; exact (hB.block _ (lt_of_block hG.box)).trans hG.box
    obtain _ | i := i
    · obtain rfl := Option.some.inj hi'
      have e1 : st 75 = vv := hA 7 (ha { on := 7, ground := .data } (by simp) rfl) h99
      obtain ⟨b, e2, hbb, hbk⟩ := hG.arr9 (ha { on := 9, ground := .data } (by simp) rfl) hl
      have hR := hG.vals0 hl
      have cb : wz.cell? ⟨b, 0, none⟩ = some (.slice sa m sc) := by simp [World.cell?, hbk]
      have e3 : evalS st (.tmp 75) = vv := e1
      have e4 : evalS st (.tmp 77) = .slice (some ⟨b, 0, none⟩) 1 1 := e2
      obtain ⟨v', w', hr, hrow, hg, -⟩ := hR.far (P := Try.prog) 44 44 iV _ 24 Try.underlying44 vi vz0 vz1 vz2 rfl (by decide) (some ⟨b, 0, none⟩) 1 1 (fun _ => .slice sa m sc) (fun j hj => ⟨b, 0, rfl, by rw [show 0 + j = 0 by omega]; exact cb⟩) (fun h => by cases h) (fun _ _ => rfl) (by unfold maxLen; omega) (by omega) hzb
      obtain ⟨a9, c9, rfl, -⟩ := hrow.slice
      have hS : Steady tsA br wz w' := steady_grown hR (by decide) hg hzb
      refine opStep_value (v := .slice a9 (k + 1) c9) (w' := w') ?_ ⟨⟨hG.steady.trans hS, ?_, ?_, ?_, ?_, ?_, ?_, ?_⟩, trivial, fun k _ _ _ h => h⟩
      · simp only [execOp, resolve, invoke, builtin, Sem.run_bind, Sem.run_pure, Result.andThen_ok, List.map_toArray, List.map_cons, List.map_nil, e3, e4, hr]
      · intro h; rw [also_ne (by decide)] at h; exact (hG.found0 h).grown hg (fun q hq e => (hR.ne (hG.found0 h) (by decide) e) hq)
      · intro h; rw [also_ne (by decide)] at h; obtain ⟨a, c, r1, r2⟩ := hG.found1 h; exact ⟨a, c, (updS_ne (by decide)).trans r1, r2.grown hg (fun q hq e => (hR.ne r2 (by decide) e) hq)⟩
      · intro h; rw [also_eq] at h; cases h
      · intro _; exact ⟨a9, c9, updS_eq, hrow⟩
      · intro h h'; rw [also_ne (by decide)] at h h'; obtain ⟨b9, r1, r2, r3⟩ := hG.arr4 h h'; exact ⟨b9, (updS_ne (by decide)).trans r1, r2, box_stands r3 hR (by decide) hg⟩
      · intro _ h; rw [also_eq] at h; cases h
      · have hn14 : L 14 = false := by
          cases h : L 14 with
          | false => rfl
          | true => rw [h14 h] at hl; cases hl
        rw [also_ne (by decide), also_ne (by decide), updS_ne (show 73 ≠ 78 by decide), hn14]
        have hbx := hG.box
        rw [hn14] at hbx
        exact box_stands hbx hR (by decide) hg
    obtain _ | i := i
    · obtain rfl := Option.some.inj hi'
      have e1 : st 7 = Value.pointer (some ⟨br, 0, none⟩) := (hFr 7 (by decide)).trans s7
      refine opStep_value (v := Value.pointer (some ⟨br, 0, none⟩)) (w' := wz) ?_ ⟨hG.pure (by decide) (by decide) _, rfl, fun k _ _ _ h => h⟩
      simp only [execOp, evalS, e1]
      go_simp
    obtain _ | i := i
    · obtain rfl := Option.some.inj hi'
      have e1 : st 79 = Value.pointer (some ⟨br, 0, none⟩) := hA 11 (ha { on := 11, ground := .data } (by simp) rfl) h99
      have hd := ha { on := 5, ground := .data } (by simp) rfl
      obtain ⟨a9, c9, e2, hrow⟩ := hG.found1 hd
      have hbx := hG.box
      obtain ⟨y0, hy0⟩ : ∃ y0, y0 = (if L 12 then st 73 else fv) := ⟨_, rfl⟩
      obtain ⟨y1, hy1⟩ : ∃ y1, y1 = (if L 14 then st 78 else vv) := ⟨_, rfl⟩
      rw [← hy0, ← hy1] at hbx
      have cz : wz.cell? ⟨br, 0, none⟩ = some y0 := by simp [World.cell?, hbx]
      have cf : wz.frozen? ⟨br, 0, none⟩ = false := by simp [World.frozen?, hbx]
      have hS : ∀ ts : Nat → Bool, ts 46 = true → Steady ts br wz (wz.setCell ⟨br, 0, none⟩ (.slice a9 (k + 1) c9)) := fun ts hts => steady_set hbx hts (Nat.le_refl _) _
      refine opStep_skip (w' := wz.setCell ⟨br, 0, none⟩ (.slice a9 (k + 1) c9)) ?_ ⟨⟨hG.steady.trans (hS tsA (by decide)), ?_, ?_, ?_, ?_, ?_, ?_, ?_⟩, trivial, fun k _ _ _ h => h⟩
      · simp only [execOp, evalS, e1, e2]
        go_simp
      · intro h; rw [also_ne (by decide)] at h; exact (hG.found0 h).steady (hS tsR (by decide)) (by decide)
      · intro h; rw [also_ne (by decide)] at h; obtain ⟨a, c, r1, r2⟩ := hG.found1 h; exact ⟨a, c, r1, r2.steady (hS tsR (by decide)) (by decide)⟩
      · intro h; rw [also_ne (by decide)] at h; exact (hG.vals0 h).steady (hS tsR (by decide)) (by decide)
      · intro h; rw [also_ne (by decide)] at h; obtain ⟨a, c, r1, r2⟩ := hG.vals1 h; exact ⟨a, c, r1, r2.steady (hS tsR (by decide)) (by decide)⟩
      · intro h h'; rw [also_ne (by decide)] at h h'; obtain ⟨b, r1, r2, r3⟩ := hG.arr4 h h'; exact ⟨b, r1, r2, (hS tsR (by decide)).block r3 (by decide)⟩
      · intro h h'; rw [also_ne (by decide)] at h h'; obtain ⟨b, r1, r2, r3⟩ := hG.arr9 h h'; exact ⟨b, r1, r2, (hS tsR (by decide)).block r3 (by decide)⟩
      · rw [also_eq, also_ne (by decide), heap_setCell_same wz br 0 _ 46 _ hbx, hy1]; show some (Obj.cells #[.slice a9 (k + 1) c9, if L 14 then st 78 else vv] 46 (0, 0)) = some (Obj.cells #[st 73, if L 14 then st 78 else vv] 46 (0, 0)); rw [e2]
    obtain _ | i := i
    · obtain rfl := Option.some.inj hi'
      have e1 : st 7 = Value.pointer (some ⟨br, 0, none⟩) := (hFr 7 (by decide)).trans s7
      refine opStep_value (v := Value.pointer (some ⟨br, 1, none⟩)) (w' := wz) ?_ ⟨hG.pure (by decide) (by decide) _, rfl, fun k _ _ _ h => h⟩
      simp only [execOp, evalS, e1]
      go_simp
    obtain _ | i := i
    · obtain rfl := Option.some.inj hi'
      have e1 : st 80 = Value.pointer (some ⟨br, 1, none⟩) := hA 13 (ha { on := 13, ground := .data } (by simp) rfl) h99
      have hd := ha { on := 10, ground := .data } (by simp) rfl
      obtain ⟨a9, c9, e2, hrow⟩ := hG.vals1 hd
      have hbx := hG.box
      obtain ⟨y0, hy0⟩ : ∃ y0, y0 = (if L 12 then st 73 else fv) := ⟨_, rfl⟩
      obtain ⟨y1, hy1⟩ : ∃ y1, y1 = (if L 14 then st 78 else vv) := ⟨_, rfl⟩
      rw [← hy0, ← hy1] at hbx
      have cz : wz.cell? ⟨br, 1, none⟩ = some y1 := by simp [World.cell?, hbx]
      have cf : wz.frozen? ⟨br, 1, none⟩ = false := by simp [World.frozen?, hbx]
      have hS : ∀ ts : Nat → Bool, ts 46 = true → Steady ts br wz (wz.setCell ⟨br, 1, none⟩ (.slice a9 (k + 1) c9)) := fun ts hts => steady_set hbx hts (Nat.le_refl _) _
      refine opStep_skip (w' := wz.setCell ⟨br, 1, none⟩ (.slice a9 (k + 1) c9)) ?_ ⟨⟨hG.steady.trans (hS tsA (by decide)), ?_, ?_, ?_, ?_, ?_, ?_, ?_⟩, trivial, fun k _ _ _ h => h⟩
      · simp only [execOp, evalS, e1, e2]
        go_simp
      · intro h; rw [also_ne (by decide)] at h; exact (hG.found0 h).steady (hS tsR (by decide)) (by decide)
      · intro h; rw [also_ne (by decide)] at h; obtain ⟨a, c, r1, r2⟩ := hG.found1 h; exact ⟨a, c, r1, r2.steady (hS tsR (by decide)) (by decide)⟩
      · intro h; rw [also_ne (by decide)] at h; exact (hG.vals0 h).steady (hS tsR (by decide)) (by decide)
      · intro h; rw [also_ne (by decide)] at h; obtain ⟨a, c, r1, r2⟩ := hG.vals1 h; exact ⟨a, c, r1, r2.steady (hS tsR (by decide)) (by decide)⟩
      · intro h h'; rw [also_ne (by decide)] at h h'; obtain ⟨b, r1, r2, r3⟩ := hG.arr4 h h'; exact ⟨b, r1, r2, (hS tsR (by decide)).block r3 (by decide)⟩
      · intro h h'; rw [also_ne (by decide)] at h h'; obtain ⟨b, r1, r2, r3⟩ := hG.arr9 h h'; exact ⟨b, r1, r2, (hS tsR (by decide)).block r3 (by decide)⟩
      · rw [also_eq, also_ne (by decide), heap_setCell_same wz br 1 _ 46 _ hbx, hy0]; show some (Obj.cells #[if L 12 then st 73 else fv, .slice a9 (k + 1) c9] 46 (0, 0)) = some (Obj.cells #[if L 12 then st 73 else fv, st 78] 46 (0, 0)); rw [e2]
    · exfalso
      have hlen : i + 15 < 15 := (List.getElem?_eq_some_iff.1 hi').1
      omega
  · intro L st wz hG _ hall _
    obtain ⟨a, c, q1, q2⟩ := hG.found1 (hall 5 (by decide))
    obtain ⟨a', c', r1, r2⟩ := hG.vals1 (hall 10 (by decide))
    have hbx := hG.box
    rw [hall 12 (by decide), hall 14 (by decide), q1, r1] at hbx
    exact hQ st wz a c a' c' hG.steady hbx q2 r2
end Go.Proofs.Ytjjggefmmeminab
