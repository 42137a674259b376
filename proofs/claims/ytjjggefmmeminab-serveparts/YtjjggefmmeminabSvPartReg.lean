/-
  The last statement of stitchlaw5.ServeParts, in whatever order: both parts' replies, one behind the other, are the same as all.
-/
import Derived.Test.YtjjggefmmeminabRegGd
import Derived.Test.YtjjggefmmeminabSvSame
namespace Go.Proofs.Ytjjggefmmeminab
open Go.RowKit Go.Sort

/-- The statement's operations, as the translation has them. -/
def parts12 : List Oper := [
  { dst := some 65, op := Op.move (Operand.tmp 8), type := 26, pos := "law.go:44", after := #[], guard := none },
   { dst := some 66, op := Op.binOp BinOp.eql 26 (Operand.tmp 65) (Operand.const (Value.int IntKind.i64 0)) 26, type := 4, pos := "law.go:44", after := #[{ on := 0, ground := Ground.data }], guard := none },
   { dst := some 67, op := Op.move (Operand.tmp 66), type := 4, pos := "law.go:44", after := #[{ on := 1, ground := Ground.data }], guard := none },
   { dst := some 68, op := Op.move (Operand.tmp 13), type := 26, pos := "law.go:44", after := #[{ on := 2, ground := Ground.guard }], guard := some (2, true) },
   { dst := some 69, op := Op.binOp BinOp.eql 26 (Operand.tmp 68) (Operand.const (Value.int IntKind.i64 0)) 26, type := 4, pos := "law.go:44", after := #[{ on := 3, ground := Ground.data }, { on := 2, ground := Ground.guard }], guard := some (2, true) },
   { dst := some 70, op := Op.pick (Operand.tmp 67) (Operand.tmp 69) (Operand.const (Value.bool false)), type := 4, pos := "law.go:44", after := #[{ on := 2, ground := Ground.data }, { on := 4, ground := Ground.data }], guard := none },
   { dst := some 71, op := Op.move (Operand.tmp 70), type := 4, pos := "law.go:44", after := #[{ on := 5, ground := Ground.data }, { on := 2, ground := Ground.chain }], guard := none },
   { dst := some 72, op := Op.load 46 (Operand.tmp 7), type := 46, pos := "law.go:44", after := #[{ on := 6, ground := Ground.guard }], guard := some (6, true) },
   { dst := some 73, op := Op.fieldAddr 46 (Operand.tmp 11) 0, type := 0, pos := "law.go:44", after := #[{ on := 6, ground := Ground.guard }], guard := some (6, true) },
   { dst := some 74, op := Op.load 43 (Operand.tmp 73), type := 43, pos := "law.go:44", after := #[{ on := 8, ground := Ground.data }, { on := 6, ground := Ground.guard }], guard := some (6, true) },
   { dst := some 75, op := Op.fieldAddr 46 (Operand.tmp 12) 0, type := 0, pos := "law.go:44", after := #[{ on := 6, ground := Ground.guard }], guard := some (6, true) },
   { dst := some 76, op := Op.load 43 (Operand.tmp 75), type := 43, pos := "law.go:44", after := #[{ on := 10, ground := Ground.data }, { on := 6, ground := Ground.guard }], guard := some (6, true) },
   { dst := some 77, op := Op.call { callee := Callee.builtin Builtin.append, args := #[Operand.tmp 74, Operand.tmp 76], argTypes := #[43, 43] }, type := 43, pos := "law.go:44", after := #[{ on := 9, ground := Ground.data }, { on := 11, ground := Ground.data }, { on := 6, ground := Ground.chain }, { on := 6, ground := Ground.guard }], guard := some (6, true) },
   { dst := some 78, op := Op.fieldAddr 46 (Operand.tmp 11) 1, type := 0, pos := "law.go:44", after := #[{ on := 6, ground := Ground.guard }], guard := some (6, true) },
   { dst := some 79, op := Op.load 44 (Operand.tmp 78), type := 44, pos := "law.go:44", after := #[{ on := 13, ground := Ground.data }, { on := 6, ground := Ground.guard }], guard := some (6, true) },
   { dst := some 80, op := Op.fieldAddr 46 (Operand.tmp 12) 1, type := 0, pos := "law.go:44", after := #[{ on := 6, ground := Ground.guard }], guard := some (6, true) },
   { dst := some 81, op := Op.load 44 (Operand.tmp 80), type := 44, pos := "law.go:44", after := #[{ on := 15, ground := Ground.data }, { on := 6, ground := Ground.guard }], guard := some (6, true) },
   { dst := some 82, op := Op.call { callee := Callee.builtin Builtin.append, args := #[Operand.tmp 79, Operand.tmp 81], argTypes := #[44, 44] }, type := 44, pos := "law.go:44", after := #[{ on := 14, ground := Ground.data }, { on := 16, ground := Ground.data }, { on := 12, ground := Ground.chain }, { on := 6, ground := Ground.guard }], guard := some (6, true) },
   { dst := some 83, op := Op.build 46 #[(0, Operand.tmp 77), (1, Operand.tmp 82)], type := 46, pos := "law.go:44", after := #[{ on := 12, ground := Ground.data }, { on := 17, ground := Ground.data }, { on := 6, ground := Ground.guard }], guard := some (6, true) },
   { dst := some 84, op := Op.call { callee := Callee.value (Operand.func 22), args := #[Operand.tmp 72, Operand.tmp 83], argTypes := #[46, 46] }, type := 4, pos := "law.go:44", after := #[{ on := 7, ground := Ground.data }, { on := 18, ground := Ground.data }, { on := 17, ground := Ground.chain }, { on := 6, ground := Ground.guard }], guard := some (6, true) },
   { dst := some 85, op := Op.pick (Operand.tmp 71) (Operand.tmp 84) (Operand.const (Value.bool false)), type := 4, pos := "law.go:44", after := #[{ on := 6, ground := Ground.data }, { on := 19, ground := Ground.data }], guard := none },
   { dst := some 6, op := Op.assign (Operand.tmp 85), type := 4, pos := "law.go:44", after := #[{ on := 20, ground := Ground.data }, { on := 19, ground := Ground.chain }, { on := 0, ground := Ground.phase }, { on := 1, ground := Ground.phase }, { on := 2, ground := Ground.phase }, { on := 3, ground := Ground.phase }, { on := 4, ground := Ground.phase }, { on := 5, ground := Ground.phase }, { on := 6, ground := Ground.phase }, { on := 7, ground := Ground.phase }, { on := 8, ground := Ground.phase }, { on := 9, ground := Ground.phase }, { on := 10, ground := Ground.phase }, { on := 11, ground := Ground.phase }, { on := 12, ground := Ground.phase }, { on := 13, ground := Ground.phase }, { on := 14, ground := Ground.phase }, { on := 15, ground := Ground.phase }, { on := 16, ground := Ground.phase }, { on := 17, ground := Ground.phase }, { on := 18, ground := Ground.phase }, { on := 19, ground := Ground.phase }, { on := 20, ground := Ground.phase }], guard := none }]
def tsB (t : Nat) : Bool := t == 4 || t == 54
theorem tsB_A : ∀ t, tsB t = true → tsA t = true := fun t h => by
  simp only [tsB, tsA, Bool.or_eq_true] at *
  exact .inl h
structure pG (w5 : World) (B1 B2 n1 n2 : Nat) (f1 f2 : Option Addr) (c1 c2 : Nat) (v1 v2 : Option Addr) (d1 d2 : Nat) (g1 g2 sv1 sv2 : Nat → Value) (L : Nat → Bool) (s : Nat → Value) (w : World) : Prop where
  steady : Steady tsB B1 w5 w
  found0 : L 12 = false → Row w B1 4 1 (.slice f1 n1 c1) n1 g1
  foundB : Row w B2 4 1 (.slice f2 n2 c2) n2 g2
  found1 : L 12 = true → ∃ a c, s 77 = .slice a (n1 + n2) c ∧ Row w B1 4 1 (.slice a (n1 + n2) c) (n1 + n2) (fun j => if j < n1 * 1 then g1 j else g2 (j - n1 * 1))
  vals0 : L 17 = false → Row w B1 54 1 (.slice v1 n1 d1) n1 sv1
  valsB : Row w B2 54 1 (.slice v2 n2 d2) n2 sv2
  vals1 : L 17 = true → ∃ a c, s 82 = .slice a (n1 + n2) c ∧ Row w B1 54 1 (.slice a (n1 + n2) c) (n1 + n2) (fun j => if j < n1 * 1 then sv1 j else sv2 (j - n1 * 1))
  built : L 18 = true → s 83 = .agg #[s 77, s 82]
theorem pG.pure {w5 : World} {B1 B2 n1 n2 : Nat} {f1 f2 : Option Addr} {c1 c2 : Nat} {v1 v2 : Option Addr} {d1 d2 : Nat} {g1 g2 sv1 sv2 : Nat → Value} {L : Nat → Bool} {s : Nat → Value} {w : World} (h : pG w5 B1 B2 n1 n2 f1 f2 c1 c2 v1 v2 d1 d2 g1 g2 sv1 sv2 L s w) {i d : Nat} (hi : i ≠ 12 ∧ i ≠ 17 ∧ i ≠ 18) (hd : d ≠ 77 ∧ d ≠ 82 ∧ d ≠ 83) (u : Value) : pG w5 B1 B2 n1 n2 f1 f2 c1 c2 v1 v2 d1 d2 g1 g2 sv1 sv2 (also L i) (updS s (some d) u) w := by
  obtain ⟨i1, i2, i3⟩ := hi
  obtain ⟨e1, e2, e3⟩ := hd
  have a1 : also L i 12 = L 12 := also_ne i1.symm
  have a2 : also L i 17 = L 17 := also_ne i2.symm
  have a3 : also L i 18 = L 18 := also_ne i3.symm
  have q1 : updS s (some d) u 77 = s 77 := updS_ne e1.symm
  have q2 : updS s (some d) u 82 = s 82 := updS_ne e2.symm
  have q3 : updS s (some d) u 83 = s 83 := updS_ne e3.symm
  exact ⟨h.steady, by rw [a1]; exact h.found0, h.foundB, by rw [a1, q1]; exact h.found1, by rw [a2]; exact h.vals0, h.valsB, by rw [a2, q2]; exact h.vals1, by rw [a3, q1, q2, q3]; exact h.built⟩
theorem pG.kept {w5 : World} {B1 B2 n1 n2 : Nat} {f1 f2 : Option Addr} {c1 c2 : Nat} {v1 v2 : Option Addr} {d1 d2 : Nat} {g1 g2 sv1 sv2 : Nat → Value} {L : Nat → Bool} {s : Nat → Value} {w w' : World} (h : pG w5 B1 B2 n1 n2 f1 f2 c1 c2 v1 v2 d1 d2 g1 g2 sv1 sv2 L s w) (hB : Below w.heap.size w w') (hz : B1 ≤ w.heap.size) : pG w5 B1 B2 n1 n2 f1 f2 c1 c2 v1 v2 d1 d2 g1 g2 sv1 sv2 L s w' :=
  ⟨h.steady.trans (steady_new hB hz), fun e => (h.found0 e).kept hB, h.foundB.kept hB, fun e => let ⟨a, c, r1, r2⟩ := h.found1 e; ⟨a, c, r1, r2.kept hB⟩, fun e => (h.vals0 e).kept hB, h.valsB.kept hB, fun e => let ⟨a, c, r1, r2⟩ := h.vals1 e; ⟨a, c, r1, r2.kept hB⟩, h.built⟩
def pA (vals : List Value) (_ : Nat → Bool) (k : Nat) (x : Value) (_ : World) : Prop := if k = 12 ∨ k = 17 ∨ k = 18 then True else x = vals.getD k undef
theorem Try.e22 : ∀ args w, (callFunc 22 args).run Try.prog w = .ok (.enter 22 args) w := enters_of Try.func22 (by kernel_rfl) rfl
theorem Row.src {w : World} {B e n c : Nat} {a : Option Addr} {f : Nat → Value} (h : Row w B e 1 (.slice a n c) n f) : (∀ j, j < n * 1 → ∃ b o, a = some ⟨b, o, none⟩ ∧ w.cell? ⟨b, o + j, none⟩ = some (f j)) ∧ (a = none → n = 0) := by
  rcases h.shape with ⟨e, h0⟩ | ⟨g, cap, e, -⟩
  · exact ⟨fun j hj => by omega, fun _ => h0⟩
  · cases e
    exact ⟨fun j hj => ⟨g, 0, rfl, by rw [Nat.zero_add]; exact h.cell hj⟩, fun e => by cases e⟩

set_option maxRecDepth 100000 in
set_option maxHeartbeats 4000000 in
theorem parts_region {Q : Exit → Act → World → Prop} {a0 : Act} {b7 b11 b12 N cA dA : Nat} {fA vA : Option Addr} {w5 : World} {B1 B2 n1 n2 : Nat} {f1 f2 : Option Addr} {c1 c2 : Nat} {v1 v2 : Option Addr} {d1 d2 : Nat} {g1 g2 sv1 sv2 : Nat → Value} {iB iV : TypeInfo}
    (bi : Try.prog.info? 4 = some iB) (bz0 : iB.zero = some (.bool false)) (bz1 : iB.size = 1) (bz2 : iB.bytes = 1) (vi : Try.prog.info? 54 = some iV) (vz0 : iV.zero = some (.slice none 0 0)) (vz1 : iV.size = 1) (vz2 : iV.bytes = 24)
    (hsz : [65, 66, 67, 68, 69, 70, 71, 72, 73, 74, 75, 76, 77, 78, 79, 80, 81, 82, 83, 84, 85, 6].all (fun d => decide (d < a0.tmps.size)) = true) (hk : (n1 + n2) * 16 ≤ 140737488355328 - 4096) (hB12 : B1 ≤ B2) (hB5 : B2 ≤ w5.heap.size) (hlt1 : ∀ b, (Value.slice f1 n1 c1).ownBlock = some b → b < B2) (hlt2 : ∀ b, (Value.slice v1 n1 d1).ownBlock = some b → b < B2)
    (s7 : slots a0 7 = .pointer (some ⟨b7, 0, none⟩)) (s11 : slots a0 11 = .pointer (some ⟨b11, 0, none⟩)) (s12 : slots a0 12 = .pointer (some ⟨b12, 0, none⟩)) (s8 : slots a0 8 = .int .i64 0) (s13 : slots a0 13 = .int .i64 0)
    (h7 : w5.heap[b7]? = some (.cells #[.slice fA N cA, .slice vA N dA] 46 (0, 0))) (h11 : w5.heap[b11]? = some (.cells #[.slice f1 n1 c1, .slice v1 n1 d1] 46 (0, 0))) (h12 : w5.heap[b12]? = some (.cells #[.slice f2 n2 c2, .slice v2 n2 d2] 46 (0, 0)))
    (hF1 : Row w5 B1 4 1 (.slice f1 n1 c1) n1 g1) (hF2 : Row w5 B2 4 1 (.slice f2 n2 c2) n2 g2) (hV1 : Row w5 B1 54 1 (.slice v1 n1 d1) n1 sv1) (hV2 : Row w5 B2 54 1 (.slice v2 n2 d2) n2 sv2) (hone : ∀ j, j < n2 → (g2 j).oneCell' = true ∧ (sv2 j).oneCell' = true)
    (hsame : ∀ w fv vv, Steady tsB B1 w5 w → Row w B1 4 1 fv (n1 + n2) (fun j => if j < n1 * 1 then g1 j else g2 (j - n1 * 1)) → Row w B1 54 1 vv (n1 + n2) (fun j => if j < n1 * 1 then sv1 j else sv2 (j - n1 * 1)) → Calls Try.prog 22 #[.agg #[.slice fA N cA, .slice vA N dA], .agg #[fv, vv]] w fun e w' => e = .returned (.bool true) ∧ Below w.heap.size w w')
    (hQ : ∀ s w', s 6 = .bool true → Below B1 w5 w' → Q .normal (putAll a0 s [65, 66, 67, 68, 69, 70, 71, 72, 73, 74, 75, 76, 77, 78, 79, 80, 81, 82, 83, 84, 85, 6]) w') :
    (Code.region 12 parts12.toArray true).wp Try.prog Q a0 w5 := by
  refine wp_region_asg (by kernel_rfl) (by kernel_rfl) [65, 66, 67, 68, 69, 70, 71, 72, 73, 74, 75, 76, 77, 78, 79, 80, 81, 82, 83, 84, 85, 6] (by kernel_rfl) hsz (by kernel_rfl) (fun _ => 99) (pA [.int .i64 0, .bool true, .bool true, .int .i64 0, .bool true, .bool true, .bool true, .agg #[.slice fA N cA, .slice vA N dA], Value.pointer (some ⟨b11, 0, none⟩), .slice f1 n1 c1, Value.pointer (some ⟨b12, 0, none⟩), .slice f2 n2 c2, undef, Value.pointer (some ⟨b11, 1, none⟩), .slice v1 n1 d1, Value.pointer (some ⟨b12, 1, none⟩), .slice v2 n2 d2, undef, undef, .bool true, .bool true, .bool true]) (pG w5 B1 B2 n1 n2 f1 f2 c1 c2 v1 v2 d1 d2 g1 g2 sv1 sv2) ⟨⟨(Below.refl _ _).drew, fun _ _ _ => rfl⟩, (fun _ => hF1.kept (Below.refl _ _).drew), hF2.kept (Below.refl _ _).drew, (fun h => by cases h), (fun _ => hV1.kept (Below.refl _ _).drew), hV2.kept (Below.refl _ _).drew, (fun h => by cases h), (fun h => by cases h)⟩ ?_ ?_ ?_
  · intro L st wz i o g b hG hL hA hi' ha hgd
    have h99 : L 99 = false := by
      cases h : L 99 with
      | false => rfl
      | true => exact absurd (hL 99 h) (by decide)
    obtain _ | i := i
    · obtain rfl := Option.some.inj hi'
      cases hgd
    obtain _ | i := i
    · obtain rfl := Option.some.inj hi'
      cases hgd
    obtain _ | i := i
    · obtain rfl := Option.some.inj hi'
      cases hgd
    obtain _ | i := i
    · obtain rfl := Option.some.inj hi'
      cases hgd
      exact ⟨67, rfl, by decide, hA 2 (ha { on := 2, ground := .guard } (by simp) rfl) h99⟩
    obtain _ | i := i
    · obtain rfl := Option.some.inj hi'
      cases hgd
      exact ⟨67, rfl, by decide, hA 2 (ha { on := 2, ground := .guard } (by simp) rfl) h99⟩
    obtain _ | i := i
    · obtain rfl := Option.some.inj hi'
      cases hgd
    obtain _ | i := i
    · obtain rfl := Option.some.inj hi'
      cases hgd
    obtain _ | i := i
    · obtain rfl := Option.some.inj hi'
      cases hgd
      exact ⟨71, rfl, by decide, hA 6 (ha { on := 6, ground := .guard } (by simp) rfl) h99⟩
    obtain _ | i := i
    · obtain rfl := Option.some.inj hi'
      cases hgd
      exact ⟨71, rfl, by decide, hA 6 (ha { on := 6, ground := .guard } (by simp) rfl) h99⟩
    obtain _ | i := i
    · obtain rfl := Option.some.inj hi'
      cases hgd
      exact ⟨71, rfl, by decide, hA 6 (ha { on := 6, ground := .guard } (by simp) rfl) h99⟩
    obtain _ | i := i
    · obtain rfl := Option.some.inj hi'
      cases hgd
      exact ⟨71, rfl, by decide, hA 6 (ha { on := 6, ground := .guard } (by simp) rfl) h99⟩
    obtain _ | i := i
    · obtain rfl := Option.some.inj hi'
      cases hgd
      exact ⟨71, rfl, by decide, hA 6 (ha { on := 6, ground := .guard } (by simp) rfl) h99⟩
    obtain _ | i := i
    · obtain rfl := Option.some.inj hi'
      cases hgd
      exact ⟨71, rfl, by decide, hA 6 (ha { on := 6, ground := .guard } (by simp) rfl) h99⟩
    obtain _ | i := i
    · obtain rfl := Option.some.inj hi'
      cases hgd
      exact ⟨71, rfl, by decide, hA 6 (ha { on := 6, ground := .guard } (by simp) rfl) h99⟩
    obtain _ | i := i
    · obtain rfl := Option.some.inj hi'
      cases hgd
      exact ⟨71, rfl, by decide, hA 6 (ha { on := 6, ground := .guard } (by simp) rfl) h99⟩
    obtain _ | i := i
    · obtain rfl := Option.some.inj hi'
      cases hgd
      exact ⟨71, rfl, by decide, hA 6 (ha { on := 6, ground := .guard } (by simp) rfl) h99⟩
    obtain _ | i := i
    · obtain rfl := Option.some.inj hi'
      cases hgd
      exact ⟨71, rfl, by decide, hA 6 (ha { on := 6, ground := .guard } (by simp) rfl) h99⟩
    obtain _ | i := i
    · obtain rfl := Option.some.inj hi'
      cases hgd
      exact ⟨71, rfl, by decide, hA 6 (ha { on := 6, ground := .guard } (by simp) rfl) h99⟩
    obtain _ | i := i
    · obtain rfl := Option.some.inj hi'
      cases hgd
      exact ⟨71, rfl, by decide, hA 6 (ha { on := 6, ground := .guard } (by simp) rfl) h99⟩
    obtain _ | i := i
    · obtain rfl := Option.some.inj hi'
      cases hgd
      exact ⟨71, rfl, by decide, hA 6 (ha { on := 6, ground := .guard } (by simp) rfl) h99⟩
    obtain _ | i := i
    · obtain rfl := Option.some.inj hi'
      cases hgd
    obtain _ | i := i
    · obtain rfl := Option.some.inj hi'
      cases hgd
    · exfalso
      have hlen : i + 22 < 22 := (List.getElem?_eq_some_iff.1 hi').1
      omega
  · intro L st wz i o hG hL hcl hA hFr hi' hl ha
    have h99 : L 99 = false := by
      cases h : L 99 with
      | false => rfl
      | true => exact absurd (hL 99 h) (by decide)
    have hz : w5.heap.size ≤ wz.heap.size := hG.steady.below.size
    have hzb : B1 ≤ wz.heap.size := by omega
    have hzb2 : B2 ≤ wz.heap.size := by omega
    obtain _ | i := i
    · obtain rfl := Option.some.inj hi'
      have e1 : st 8 = .int .i64 0 := (hFr 8 (by decide)).trans s8
      exact opStep_value (v := st 8) (w' := wz) rfl ⟨hG.pure (by decide) (by decide) _, e1, fun k _ _ _ h => h⟩
    obtain _ | i := i
    · obtain rfl := Option.some.inj hi'
      have e1 : st 65 = .int .i64 0 := hA 0 (ha { on := 0, ground := .data } (by simp) rfl) h99
      refine opStep_value (v := .bool true) (w' := wz) ?_ ⟨hG.pure (by decide) (by decide) _, rfl, fun k _ _ _ h => h⟩
      simp only [execOp, evalS, e1]
      go_simp
    obtain _ | i := i
    · obtain rfl := Option.some.inj hi'
      have e1 : st 66 = .bool true := hA 1 (ha { on := 1, ground := .data } (by simp) rfl) h99
      exact opStep_value (v := st 66) (w' := wz) rfl ⟨hG.pure (by decide) (by decide) _, e1, fun k _ _ _ h => h⟩
    obtain _ | i := i
    · obtain rfl := Option.some.inj hi'
      have e1 : st 13 = .int .i64 0 := (hFr 13 (by decide)).trans s13
      exact opStep_value (v := st 13) (w' := wz) rfl ⟨hG.pure (by decide) (by decide) _, e1, fun k _ _ _ h => h⟩
    obtain _ | i := i
    · obtain rfl := Option.some.inj hi'
      have e1 : st 68 = .int .i64 0 := hA 3 (ha { on := 3, ground := .data } (by simp) rfl) h99
      refine opStep_value (v := .bool true) (w' := wz) ?_ ⟨hG.pure (by decide) (by decide) _, rfl, fun k _ _ _ h => h⟩
      simp only [execOp, evalS, e1]
      go_simp
    obtain _ | i := i
    · obtain rfl := Option.some.inj hi'
      have e1 : st 67 = .bool true := hA 2 (ha { on := 2, ground := .data } (by simp) rfl) h99
      have e2 : st 69 = .bool true := hA 4 (ha { on := 4, ground := .data } (by simp) rfl) h99
      refine opStep_value (v := .bool true) (w' := wz) ?_ ⟨hG.pure (by decide) (by decide) _, rfl, fun k _ _ _ h => h⟩
      simp only [execOp, evalS, e1, e2]
      go_simp
    obtain _ | i := i
    · obtain rfl := Option.some.inj hi'
      have e1 : st 70 = .bool true := hA 5 (ha { on := 5, ground := .data } (by simp) rfl) h99
      exact opStep_value (v := st 70) (w' := wz) rfl ⟨hG.pure (by decide) (by decide) _, e1, fun k _ _ _ h => h⟩
    obtain _ | i := i
    · obtain rfl := Option.some.inj hi'
      have e1 : st 7 = Value.pointer (some ⟨b7, 0, none⟩) := (hFr 7 (by decide)).trans s7
      have hbx := hG.steady.block h7 (by decide)
      obtain ⟨x0, x1⟩ : wz.cell? ⟨b7, 0, none⟩ = some (.slice fA N cA) ∧ wz.cell? ⟨b7, 1, none⟩ = some (.slice vA N dA) := by simp [World.cell?, hbx]
      refine opStep_value (v := .agg #[.slice fA N cA, .slice vA N dA]) (w' := wz) ?_ ⟨hG.pure (by decide) (by decide) _, rfl, fun k _ _ _ h => h⟩
      simp only [execOp, evalS, e1]
      go_simp
    obtain _ | i := i
    · obtain rfl := Option.some.inj hi'
      have e1 : st 11 = Value.pointer (some ⟨b11, 0, none⟩) := (hFr 11 (by decide)).trans s11
      refine opStep_value (v := Value.pointer (some ⟨b11, 0, none⟩)) (w' := wz) ?_ ⟨hG.pure (by decide) (by decide) _, rfl, fun k _ _ _ h => h⟩
      simp only [execOp, evalS, e1]
      go_simp
    obtain _ | i := i
    · obtain rfl := Option.some.inj hi'
      have e1 : st 73 = Value.pointer (some ⟨b11, 0, none⟩) := hA 8 (ha { on := 8, ground := .data } (by simp) rfl) h99
      have hbx := hG.steady.block h11 (by decide)
      have cz : wz.cell? ⟨b11, 0, none⟩ = some (.slice f1 n1 c1) := by simp [World.cell?, hbx]
      refine opStep_value (v := .slice f1 n1 c1) (w' := wz) ?_ ⟨hG.pure (by decide) (by decide) _, rfl, fun k _ _ _ h => h⟩
      simp only [execOp, evalS, e1]
      go_simp
    obtain _ | i := i
    · obtain rfl := Option.some.inj hi'
      have e1 : st 12 = Value.pointer (some ⟨b12, 0, none⟩) := (hFr 12 (by decide)).trans s12
      refine opStep_value (v := Value.pointer (some ⟨b12, 0, none⟩)) (w' := wz) ?_ ⟨hG.pure (by decide) (by decide) _, rfl, fun k _ _ _ h => h⟩
      simp only [execOp, evalS, e1]
      go_simp
    obtain _ | i := i
    · obtain rfl := Option.some.inj hi'
      have e1 : st 75 = Value.pointer (some ⟨b12, 0, none⟩) := hA 10 (ha { on := 10, ground := .data } (by simp) rfl) h99
      have hbx := hG.steady.block h12 (by decide)
      have cz : wz.cell? ⟨b12, 0, none⟩ = some (.slice f2 n2 c2) := by simp [World.cell?, hbx]
      refine opStep_value (v := .slice f2 n2 c2) (w' := wz) ?_ ⟨hG.pure (by decide) (by decide) _, rfl, fun k _ _ _ h => h⟩
      simp only [execOp, evalS, e1]
      go_simp
    obtain _ | i := i
    · obtain rfl := Option.some.inj hi'
      have e1 : st 74 = .slice f1 n1 c1 := hA 9 (ha { on := 9, ground := .data } (by simp) rfl) h99
      have e2 : st 76 = .slice f2 n2 c2 := hA 11 (ha { on := 11, ground := .data } (by simp) rfl) h99
      have hR := hG.found0 hl
      have hB2 := hG.foundB
      obtain ⟨k1, k2⟩ := hB2.src
      have e3 : evalS st (.tmp 74) = .slice f1 n1 c1 := e1
      have e4 : evalS st (.tmp 76) = .slice f2 n2 c2 := e2
      obtain ⟨v', w', hr, hrow, hg, -⟩ := hR.far (P := Try.prog) 43 43 iB _ 1 Try.underlying43 bi bz0 bz1 bz2 rfl (by decide) _ n2 c2 g2 k1 k2 (fun j hj => (hone j (by omega)).1) (by unfold maxLen; omega) (by omega) hzb
      obtain ⟨a9, c9, rfl, -⟩ := hrow.slice
      have hS : Steady tsB B1 wz w' := steady_grown hR (by decide) hg hzb
      refine opStep_value (v := .slice a9 (n1 + n2) c9) (w' := w') ?_ ⟨⟨hG.steady.trans hS, ?_, ?_, ?_, ?_, ?_, ?_, ?_⟩, trivial, fun k _ _ _ h => h⟩
      · simp only [execOp, resolve, invoke, builtin, Sem.run_bind, Sem.run_pure, Result.andThen_ok, List.map_toArray, List.map_cons, List.map_nil, e3, e4, hr]
      · intro h; rw [also_eq] at h; cases h
      · exact hB2.grown hg (fun q hq e => by have h1 := (hB2.lt hq).1; have h2 := hlt1 q e; omega)
      · intro _; exact ⟨a9, c9, updS_eq, hrow⟩
      · intro h; rw [also_ne (by decide)] at h; exact (hG.vals0 h).grown hg (fun q hq e => (hR.ne (hG.vals0 h) (by decide) e) hq)
      · exact hG.valsB.grown hg (fun q hq e => (hR.ne hG.valsB (by decide) e) hq)
      · intro h; rw [also_ne (by decide)] at h; obtain ⟨a, c, r1, r2⟩ := hG.vals1 h; exact ⟨a, c, (updS_ne (by decide)).trans r1, r2.grown hg (fun q hq e => (hR.ne r2 (by decide) e) hq)⟩
      · intro h; rw [also_ne (by decide)] at h; rw [hcl 18 _ h rfl { on := 12, ground := .data } (by simp) rfl] at hl; cases hl
    obtain _ | i := i
    · obtain rfl := Option.some.inj hi'
      have e1 : st 11 = Value.pointer (some ⟨b11, 0, none⟩) := (hFr 11 (by decide)).trans s11
      refine opStep_value (v := Value.pointer (some ⟨b11, 1, none⟩)) (w' := wz) ?_ ⟨hG.pure (by decide) (by decide) _, rfl, fun k _ _ _ h => h⟩
      simp only [execOp, evalS, e1]
      go_simp
    obtain _ | i := i
    · obtain rfl := Option.some.inj hi'
      have e1 : st 78 = Value.pointer (some ⟨b11, 1, none⟩) := hA 13 (ha { on := 13, ground := .data } (by simp) rfl) h99
      have hbx := hG.steady.block h11 (by decide)
      have cz : wz.cell? ⟨b11, 1, none⟩ = some (.slice v1 n1 d1) := by simp [World.cell?, hbx]
      refine opStep_value (v := .slice v1 n1 d1) (w' := wz) ?_ ⟨hG.pure (by decide) (by decide) _, rfl, fun k _ _ _ h => h⟩
      simp only [execOp, evalS, e1]
      go_simp
    obtain _ | i := i
    · obtain rfl := Option.some.inj hi'
      have e1 : st 12 = Value.pointer (some ⟨b12, 0, none⟩) := (hFr 12 (by decide)).trans s12
      refine opStep_value (v := Value.pointer (some ⟨b12, 1, none⟩)) (w' := wz) ?_ ⟨hG.pure (by decide) (by decide) _, rfl, fun k _ _ _ h => h⟩
      simp only [execOp, evalS, e1]
      go_simp
    obtain _ | i := i
    · obtain rfl := Option.some.inj hi'
      have e1 : st 80 = Value.pointer (some ⟨b12, 1, none⟩) := hA 15 (ha { on := 15, ground := .data } (by simp) rfl) h99
      have hbx := hG.steady.block h12 (by decide)
      have cz : wz.cell? ⟨b12, 1, none⟩ = some (.slice v2 n2 d2) := by simp [World.cell?, hbx]
      refine opStep_value (v := .slice v2 n2 d2) (w' := wz) ?_ ⟨hG.pure (by decide) (by decide) _, rfl, fun k _ _ _ h => h⟩
      simp only [execOp, evalS, e1]
      go_simp
    obtain _ | i := i
    · obtain rfl := Option.some.inj hi'
      have e1 : st 79 = .slice v1 n1 d1 := hA 14 (ha { on := 14, ground := .data } (by simp) rfl) h99
      have e2 : st 81 = .slice v2 n2 d2 := hA 16 (ha { on := 16, ground := .data } (by simp) rfl) h99
      have hR := hG.vals0 hl
      have hB2 := hG.valsB
      obtain ⟨k1, k2⟩ := hB2.src
      have e3 : evalS st (.tmp 79) = .slice v1 n1 d1 := e1
      have e4 : evalS st (.tmp 81) = .slice v2 n2 d2 := e2
      obtain ⟨v', w', hr, hrow, hg, -⟩ := hR.far (P := Try.prog) 44 44 iV _ 24 Try.underlying44 vi vz0 vz1 vz2 rfl (by decide) _ n2 d2 sv2 k1 k2 (fun j hj => (hone j (by omega)).2) (by unfold maxLen; omega) (by omega) hzb
      obtain ⟨a9, c9, rfl, -⟩ := hrow.slice
      have hS : Steady tsB B1 wz w' := steady_grown hR (by decide) hg hzb
      refine opStep_value (v := .slice a9 (n1 + n2) c9) (w' := w') ?_ ⟨⟨hG.steady.trans hS, ?_, ?_, ?_, ?_, ?_, ?_, ?_⟩, trivial, fun k _ _ _ h => h⟩
      · simp only [execOp, resolve, invoke, builtin, Sem.run_bind, Sem.run_pure, Result.andThen_ok, List.map_toArray, List.map_cons, List.map_nil, e3, e4, hr]
      · intro h; rw [also_ne (by decide)] at h; exact (hG.found0 h).grown hg (fun q hq e => (hR.ne (hG.found0 h) (by decide) e) hq)
      · exact hG.foundB.grown hg (fun q hq e => (hR.ne hG.foundB (by decide) e) hq)
      · intro h; rw [also_ne (by decide)] at h; obtain ⟨a, c, r1, r2⟩ := hG.found1 h; exact ⟨a, c, (updS_ne (by decide)).trans r1, r2.grown hg (fun q hq e => (hR.ne r2 (by decide) e) hq)⟩
      · intro h; rw [also_eq] at h; cases h
      · exact hB2.grown hg (fun q hq e => by have h1 := (hB2.lt hq).1; have h2 := hlt2 q e; omega)
      · intro _; exact ⟨a9, c9, updS_eq, hrow⟩
      · intro h; rw [also_ne (by decide)] at h; rw [hcl 18 _ h rfl { on := 17, ground := .data } (by simp) rfl] at hl; cases hl
    obtain _ | i := i
    · obtain rfl := Option.some.inj hi'
      obtain ⟨a1, x1, e1, -⟩ := hG.found1 (ha { on := 12, ground := .data } (by simp) rfl)
      obtain ⟨a2, x2, e2, -⟩ := hG.vals1 (ha { on := 17, ground := .data } (by simp) rfl)
      refine opStep_value (v := .agg #[st 77, st 82]) (w' := wz) ?_ ⟨⟨hG.steady, ?_, hG.foundB, ?_, ?_, hG.valsB, ?_, fun _ => ?_⟩, trivial, fun k _ _ _ h => h⟩
      · simp only [execOp, evalS, e1, e2]
        go_simp
      · rw [also_ne (by decide)]; exact hG.found0
      · rw [also_ne (by decide), updS_ne (by decide)]; exact hG.found1
      · rw [also_ne (by decide)]; exact hG.vals0
      · rw [also_ne (by decide), updS_ne (by decide)]; exact hG.vals1
      · rw [updS_eq, updS_ne (by decide), updS_ne (by decide)]
    obtain _ | i := i
    · obtain rfl := Option.some.inj hi'
      have e1 : st 72 = .agg #[.slice fA N cA, .slice vA N dA] := hA 7 (ha { on := 7, ground := .data } (by simp) rfl) h99
      have e2 := hG.built (ha { on := 18, ground := .data } (by simp) rfl)
      have hcl18 := hcl 18 _ (ha { on := 18, ground := .data } (by simp) rfl) rfl
      have l12 : L 12 = true := hcl18 { on := 12, ground := .data } (by simp) rfl
      have l17 : L 17 = true := hcl18 { on := 17, ground := .data } (by simp) rfl
      obtain ⟨a1, x1, q1, r1⟩ := hG.found1 l12
      obtain ⟨a2, x2, q2, r2⟩ := hG.vals1 l17
      rw [q1, q2] at e2
      refine opStep_callg 22 _ _ rfl Try.e22 #[.agg #[.slice fA N cA, .slice vA N dA], .agg #[.slice a1 (n1 + n2) x1, .slice a2 (n1 + n2) x2]] (by simp [evalS, e1, e2]) ((hsame wz _ _ hG.steady r1 r2).mono ?_)
      rintro e w9 ⟨rfl, h9⟩
      exact ⟨_, rfl, (hG.kept h9 hzb).pure (by decide) (by decide) _, rfl, fun k _ _ _ h => h⟩
    obtain _ | i := i
    · obtain rfl := Option.some.inj hi'
      have e1 : st 71 = .bool true := hA 6 (ha { on := 6, ground := .data } (by simp) rfl) h99
      have e2 : st 84 = .bool true := hA 19 (ha { on := 19, ground := .data } (by simp) rfl) h99
      refine opStep_value (v := .bool true) (w' := wz) ?_ ⟨hG.pure (by decide) (by decide) _, rfl, fun k _ _ _ h => h⟩
      simp only [execOp, evalS, e1, e2]
      go_simp
    obtain _ | i := i
    · obtain rfl := Option.some.inj hi'
      have e1 : st 85 = .bool true := hA 20 (ha { on := 20, ground := .data } (by simp) rfl) h99
      exact opStep_value (v := st 85) (w' := wz) rfl ⟨hG.pure (by decide) (by decide) _, e1, fun k _ _ _ h => h⟩
    · exfalso
      have hlen : i + 22 < 22 := (List.getElem?_eq_some_iff.1 hi').1
      omega
  · intro L st wz hG hL hall hA
    have h99 : L 99 = false := by
      cases h : L 99 with
      | false => rfl
      | true => exact absurd (hL 99 h) (by decide)
    exact hQ st wz (hA 21 (hall 21 (by decide)) h99) hG.steady.below
end Go.Proofs.Ytjjggefmmeminab
