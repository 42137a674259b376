/-
  A law for 'append(dst, src...)' where dst is the call's own, and src is whatever slice, nil too; and what such a row of types holds.
-/
import Derived.Test.YtjjggefmmeminabMem
import Derived.Maps.AppendAt
import Derived.Deep.AppendSrc
namespace Go.Proofs.Ytjjggefmmeminab
open Go.RowKit Go.Sort

theorem run_append_any {P : Program} (w : World) (base : Nat) (t ty e : TypeId) (i : TypeInfo) (z : Value) (size bytes : Nat) (ht : P.underlying t = some (.slice e)) (hi : P.info? e = some i) (hz : i.zero = some z)
    (hsize : i.size = size) (hby : i.bytes = bytes) (hzs : z.cells.size = size) (hsz : 0 < size)
    (v : Value) (n : Nat) (xs : List Value) (hown : w.ownsRow base e size v n xs)
    (src : Option Addr) (m c : Nat) (news : List Value) (hl : news.length = m * size) (hnews : ∀ ad, src = some ad → ∀ j u, news[j]? = some u → w.cell? (ad.add j) = some u) (hnil : src = none → m = 0) (h1 : ∀ u ∈ news, u.oneCell' = true)
    (h63 : n + m ≤ maxLen) (hbytes : (n + m) * bytes ≤ 140737488355328) (hbase : base ≤ w.heap.size) :
    ∃ v' w', (Builtin.append_ #[t, t] ty #[v, .slice src m c]).run P w = .ok v' w' ∧ w'.ownsRow base e size v' (n + m) (xs ++ news) ∧ w.grownBy w' v.ownBlock ∧ (v'.ownBlock = v.ownBlock ∨ v'.ownBlock = some w.heap.size) := by
  cases src with
  | some ad =>
    obtain ⟨v', w', hr, h2, h3, -, h5⟩ := run_append_own_at (P := P) w base t ty e i z size bytes ht hi hz hsize hby hzs hsz v n xs hown ad m c news hl (hnews ad rfl) h1 h63 hbytes hbase
    exact ⟨v', w', hr, h2, h3, h5⟩
  | none =>
    have hm := hnil rfl
    subst hm
    have hn : news = [] := List.eq_nil_of_length_eq_zero (by simpa using hl)
    subst hn
    refine ⟨v, w, ?_, by simpa using hown, ⟨rfl, rfl, rfl, Nat.le_refl _, fun _ _ _ => rfl⟩, .inl rfl⟩
    rcases hown.2 with ⟨rfl, rfl⟩ | ⟨g, cap, cur, rfl, _, _, hnc, _⟩
    · simp [Builtin.append_, run_underlying ht, sizeOf, typeInfo, hi, Builtin.lenOf, Builtin.firstCells]
    · simp [Builtin.append_, run_underlying ht, sizeOf, typeInfo, hi, Builtin.lenOf, Builtin.firstCells, hnc, storeCells]

theorem wpList_append_any {P : Program} (w : World) {ops : Array Oper} {rest : List Oper} {o : Oper} {a : Act} {Q : Exit → Act → World → Prop} (hgd : o.guard = none) (s x : Operand) (t : TypeId)
    (ho : o.op = .call { callee := .builtin .append, args := #[s, x], argTypes := #[t, t] })
    (base : Nat) (e : TypeId) (i : TypeInfo) (z : Value) (size bytes : Nat) (ht : P.underlying t = some (.slice e)) (hi : P.info? e = some i) (hz : i.zero = some z)
    (hsize : i.size = size) (hby : i.bytes = bytes) (hzs : z.cells.size = size) (hsz : 0 < size)
    (v : Value) (n : Nat) (xs : List Value) (hs : a.eval s = v) (hown : w.ownsRow base e size v n xs)
    (src : Option Addr) (m c : Nat) (news : List Value) (hx : a.eval x = .slice src m c) (hl : news.length = m * size) (hnews : ∀ ad, src = some ad → ∀ j u, news[j]? = some u → w.cell? (ad.add j) = some u) (hnil : src = none → m = 0) (h1 : ∀ u ∈ news, u.oneCell' = true)
    (h63 : n + m ≤ maxLen) (hbytes : (n + m) * bytes ≤ 140737488355328) (hbase : base ≤ w.heap.size)
    (h : ∀ v' w', w'.ownsRow base e size v' (n + m) (xs ++ news) → w.grownBy w' v.ownBlock → (v'.ownBlock = v.ownBlock ∨ v'.ownBlock = some w.heap.size) → wpList P ops Q rest (a.put o.dst v') w') :
    wpList P ops Q (o :: rest) a w := by
  refine wpList_plain hgd fun K hK => ?_
  obtain ⟨v', w', hr, h2, h3, h5⟩ := run_append_any (P := P) w base t o.type e i z size bytes ht hi hz hsize hby hzs hsz v n xs hown src m c news hl hnews hnil h1 h63 hbytes hbase
  unfold Oper.wp execOp
  simp only [ho, resolve, invoke, builtin, Sem.run_bind, Sem.run_pure, Result.andThen_ok, List.map_toArray, List.map_cons, List.map_nil, hs, hx, hr]
  exact hK _ _ (h v' w' h2 h3 h5)

theorem info_parts' {P : Program} {e : TypeId} {z : Option Value} {s b : Nat} (h : (P.info? e).map (fun i => (i.zero, i.size, i.bytes)) = some (z, s, b)) : ∃ i, P.info? e = some i ∧ i.zero = z ∧ i.size = s ∧ i.bytes = b := by
  cases hi : P.info? e with
  | none => rw [hi] at h; simp at h
  | some i => rw [hi] at h; simp at h; exact ⟨i, rfl, h⟩

/-! Rows of types -/
def typeCell (T : Nat → LType) (j : Nat) : Value := if j % 2 = 0 then .string (T (j / 2)).name else .slice (T (j / 2)).fa (T (j / 2)).nf (T (j / 2)).fcap
def typeCells (T : Nat → LType) (n : Nat) : List Value := (List.range (n * 2)).map (typeCell T)
theorem typeCells_length (T : Nat → LType) (n : Nat) : (typeCells T n).length = n * 2 := by simp [typeCells]
theorem typeCells_get {T : Nat → LType} {n j : Nat} (h : j < n * 2) : (typeCells T n)[j]? = some (typeCell T j) := by
  unfold typeCells; rw [List.getElem?_map, List.getElem?_range h]; rfl
theorem typeCells_one (T : Nat → LType) (n : Nat) : ∀ u ∈ typeCells T n, u.oneCell' = true := by
  intro u hu
  obtain ⟨j, -, rfl⟩ := List.mem_map.1 hu
  unfold typeCell; split <;> rfl
theorem typeCells_congr {T T' : Nat → LType} {n : Nat} (h : ∀ i, i < n → T i = T' i) : typeCells T n = typeCells T' n := by
  unfold typeCells
  refine List.map_congr_left fun j hj => ?_
  have hj' : j < n * 2 := by simpa using hj
  unfold typeCell; rw [h (j / 2) (by omega)]
theorem typeCells_succ (T : Nat → LType) (n : Nat) : typeCells T (n + 1) = typeCells T n ++ [.string (T n).name, .slice (T n).fa (T n).nf (T n).fcap] := by
  unfold typeCells
  rw [show (n + 1) * 2 = n * 2 + 1 + 1 by omega, List.range_succ, List.range_succ]
  simp only [List.map_append, List.map_cons, List.map_nil, List.append_assoc]
  unfold typeCell
  rw [if_pos (by omega), if_neg (by omega), show n * 2 / 2 = n by omega, show (n * 2 + 1) / 2 = n by omega]
  rfl

/-- What a slice of types yields to an append. -/
theorem TypesAt.news {w : World} {a : Option Addr} {n : Nat} {T : Nat → LType} (h : TypesAt w a n T) : ∀ ad, a = some ad → ∀ j u, (typeCells T n)[j]? = some u → w.cell? (ad.add j) = some u := by
  intro ad ha j u hu
  by_cases hj : j < n * 2
  · rw [typeCells_get hj] at hu
    obtain ⟨b, o, ha', h0, h1, -⟩ := h.2 (j / 2) (by omega)
    rw [ha] at ha'
    cases ha'
    have e : j = j / 2 * 2 ∨ j = j / 2 * 2 + 1 := by omega
    rw [WideShapes.add_plain]
    injection hu with hu
    subst hu
    unfold typeCell
    rcases e with e | e
    · rw [if_pos (by omega)]
      have : o + j = o + j / 2 * 2 := by omega
      rw [this]; exact h0
    · rw [if_neg (by omega)]
      have : o + j = o + j / 2 * 2 + 1 := by omega
      rw [this]; exact h1
  · rw [List.getElem?_eq_none (by rw [typeCells_length]; omega)] at hu
    cases hu
theorem TypesAt.nil {w : World} {n : Nat} {T : Nat → LType} (h : TypesAt w none n T) : n = 0 := by
  rcases Nat.eq_zero_or_pos n with h0 | h0
  · exact h0
  · obtain ⟨b, o, e, _⟩ := h.2 0 h0
    cases e

/-- A row of the call's own that holds types is a slice of them. -/
theorem owns_types {w : World} {base e : Nat} {v : Value} {n : Nat} {T : Nat → LType} (h : w.ownsRow base e 2 v n (typeCells T n)) (hm : n ≤ maxLen) (hg : ∀ i, i < n → (T i).nf ≤ (T i).fcap ∧ Small (T i).name ∧ FieldsAt w (T i).fa (T i).nf (T i).F) :
    ∃ a cap, v = .slice a n cap ∧ n ≤ cap ∧ TypesAt w a n T := by
  rcases h.2 with ⟨rfl, rfl⟩ | ⟨g, cap, cur, rfl, hb, hgg, hnc, hcm, hcs, htake⟩
  · exact ⟨none, 0, rfl, Nat.le_refl _, Nat.zero_le _, fun i hi => absurd hi (Nat.not_lt_zero _)⟩
  · refine ⟨_, cap, rfl, hnc, hm, fun i hi => ⟨g, 0, rfl, ?_, ?_, hg i hi⟩⟩
    · have := h.cellAt (i * 2) (by omega)
      rw [typeCells_get (by omega)] at this
      rw [Nat.zero_add, this]
      unfold typeCell
      rw [if_pos (by omega), show i * 2 / 2 = i by omega]
    · have := h.cellAt (i * 2 + 1) (by omega)
      rw [typeCells_get (by omega)] at this
      rw [Nat.zero_add, this]
      unfold typeCell
      rw [if_neg (by omega), show (i * 2 + 1) / 2 = i by omega]
end Go.Proofs.Ytjjggefmmeminab
