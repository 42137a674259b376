/-
  Appending, as far as memory goes; what stays as it is while rows of some elements grow; a map of the call's own, from texts to numbers.
-/
import Derived.Test.YtjjggefmmeminabRowm
import Derived.Maps.OwnSet
import Derived.WalkLawsBesides
namespace Go.Proofs.Ytjjggefmmeminab
open Go.RowKit Go.Sort

/-! Appending as far as memory goes -/
theorem nextcap {need old : Nat} (h : old < need) : 4 * Builtin.nextslicecap need old ≤ 5 * need + 768 := by
  unfold Builtin.nextslicecap
  split
  · omega
  · split
    · omega
    · rw [growBy_four]
      repeat' split
      all_goals omega
theorem fits_far {need old bytes : Nat} (h : old < need) (hb : (5 * need + 768) * bytes ≤ 1125899906842624) : Builtin.nextslicecap need old * bytes ≤ 281474976710656 := by
  have h1 := Nat.mul_le_mul_right bytes (nextcap h)
  rw [Nat.mul_assoc] at h1
  omega

theorem Row.far {P : Program} {w : World} {base e size n : Nat} {v : Value} {f : Nat → Value} (hR : Row w base e size v n f) (t ty : TypeId) (i : TypeInfo) (z : Value) (bytes : Nat) (ht : P.underlying t = some (.slice e)) (hi : P.info? e = some i) (hz : i.zero = some z)
    (hsize : i.size = size) (hby : i.bytes = bytes) (hzs : z.cells.size = size) (hsz : 0 < size) (src : Option Addr) (m c : Nat) (g : Nat → Value)
    (hnews : ∀ j, j < m * size → ∃ b o, src = some ⟨b, o, none⟩ ∧ w.cell? ⟨b, o + j, none⟩ = some (g j)) (hnil : src = none → m = 0) (h1 : ∀ j, j < m * size → (g j).oneCell' = true)
    (h63 : n + m ≤ maxLen) (hbytes : (5 * (n + m) + 768) * bytes ≤ 1125899906842624) (hbase : base ≤ w.heap.size) :
    ∃ v' w', (Builtin.append_ #[t, t] ty #[v, .slice src m c]).run P w = .ok v' w' ∧ Row w' base e size v' (n + m) (fun j => if j < n * size then f j else g (j - n * size)) ∧ w.grownBy w' v.ownBlock ∧ (v'.ownBlock = v.ownBlock ∨ v'.ownBlock = some w.heap.size) := by
  subst hsize
  subst hby
  have hlist : (List.range ((n + m) * i.size)).map (fun j => if j < n * i.size then f j else g (j - n * i.size)) = (List.range (n * i.size)).map f ++ (List.range (m * i.size)).map g := by
    rw [Nat.add_mul, List.range_add, List.map_append, List.map_map, range_map_congr (fun j hj => if_pos hj : ∀ j, j < n * i.size → (if j < n * i.size then f j else g (j - n * i.size)) = f j)]
    refine congrArg _ (List.map_congr_left fun j _ => ?_)
    simp
    intro h
    omega
  have hsmall : n + m ≤ 9223372036854775807 := by simp only [maxLen] at h63; omega
  generalize hnw : (List.range (m * i.size)).map g = news at hlist
  have hl : news.length = m * i.size := by rw [← hnw]; simp
  have hn1 : ∀ u ∈ news, u.oneCell' = true := by
    intro u hu
    rw [← hnw] at hu
    obtain ⟨j, hj, rfl⟩ := List.mem_map.1 hu
    exact h1 j (by simpa using hj)
  by_cases hm : m = 0
  · subst hm
    have hnn : news = [] := List.eq_nil_of_length_eq_zero (by simpa using hl)
    refine ⟨v, w, ?_, ?_, ⟨rfl, rfl, rfl, Nat.le_refl _, fun _ _ _ => rfl⟩, .inl rfl⟩
    · rcases hR.2 with ⟨rfl, rfl⟩ | ⟨g', cap, cur, rfl, _, _, hnc, _⟩
      · cases src <;> simp [Builtin.append_, run_underlying ht, sizeOf, typeInfo, hi, Builtin.lenOf, Builtin.firstCells, loadCells, loadCellsFrom]
      · cases src <;> simp [Builtin.append_, run_underlying ht, sizeOf, typeInfo, hi, Builtin.lenOf, Builtin.firstCells, loadCells, loadCellsFrom, hnc, storeCells]
    · unfold Row
      rw [hlist, hnn, List.append_nil]
      exact hR
  · have hm0 : 0 < m * i.size := Nat.mul_pos (by omega) hsz
    obtain ⟨b0, o0, hs0, -⟩ := hnews 0 hm0
    subst hs0
    have hnw' : ∀ j u, news[j]? = some u → w.cell? ((⟨b0, o0, none⟩ : Addr).add j) = some u := by
      intro j u hu
      rw [← hnw] at hu
      have hj : j < m * i.size := by
        have := (List.getElem?_eq_some_iff.1 hu).1
        simpa using this
      obtain ⟨b, o, e, hc⟩ := hnews j hj
      cases e
      rw [WideShapes.add_plain, hc]
      rw [List.getElem?_map, List.getElem?_range hj] at hu
      simpa using hu
    have hlen : ((List.range (n * i.size)).map f ++ news).length = (n + m) * i.size := by rw [List.length_append, hl, Nat.add_mul]; simp
    have grown : ∀ old, old < n + m → ∀ row : Option Nat,
        (w.drew.alloc (.cells (((List.range (n * i.size)).map f).toArray ++ news.toArray ++ Builtin.zeroCells z.cells (grownCap w (n + m) old e - (n + m))) e)).ownsRow base e i.size (.slice (some ⟨w.heap.size, 0, none⟩) (n + m) (grownCap w (n + m) old e)) (n + m) ((List.range (n * i.size)).map f ++ news) ∧
        w.grownBy (w.drew.alloc (.cells (((List.range (n * i.size)).map f).toArray ++ news.toArray ++ Builtin.zeroCells z.cells (grownCap w (n + m) old e - (n + m))) e)) row := by
      intro old ho row
      refine ⟨⟨hlen, .inr ⟨w.heap.size, _, _, rfl, hbase, heap_alloc_new w.drew _, grownCap_ge w (n + m) old e, grownCap_le_maxLen w (n + m) old e h63, ?_, ?_⟩⟩, ⟨rfl, rfl, rfl, by simp, fun k hk _ => Below.heap_alloc _ _ _ hk⟩⟩
      · have := grownCap_ge w (n + m) old e
        simp only [Array.size_append, List.size_toArray, size_zeroCells, hzs, hl, List.length_map, List.length_range, ← Nat.add_mul]
        congr 1
        omega
      · simp only [Array.toList_append, List.append_assoc]
        rw [← List.append_assoc, ← hlen]
        exact List.take_left
    unfold Row
    rw [hlist]
    rcases hR.2 with ⟨rfl, rfl⟩ | ⟨g', cap, cur, rfl, hbg, hg, hnc, hcm, hcs, htake⟩
    · have hr := run_append_nil (P := P) w t ty e i z ht hi hz ⟨b0, o0, none⟩ m c news hl hnw' (by omega) (by omega) (by have := fits_far (need := 0 + m) (old := 0) (bytes := i.bytes) (by omega) hbytes; rw [Nat.zero_add, nextslicecap_zero (by omega)] at this; exact this)
      have hgr := grown 0 (by omega) (Value.ownBlock (.slice none 0 0))
      simp only [Nat.zero_mul, List.range_zero, List.map_nil, Nat.zero_add, List.nil_append, Array.empty_append] at hgr ⊢
      exact ⟨_, _, hr, hgr.1, hgr.2, Or.inr rfl⟩
    · by_cases hroom : n + m ≤ cap
      · have hfit : n * i.size + news.length ≤ cur.size := by rw [hl, hcs, ← Nat.add_mul]; exact Nat.mul_le_mul_right _ hroom
        have hr := run_append_room (P := P) w t ty e i ht hi g' n cap cur hg ⟨b0, o0, none⟩ m c news hl hnw' hn1 hroom hfit
        refine ⟨_, _, hr, ⟨hlen, .inr ⟨g', cap, _, rfl, hbg, setRow_heap w g' cur _ e _ hg, hroom, hcm, ?_, ?_⟩⟩, ⟨rfl, rfl, rfl, by simp, fun k _ hk => setRow_other w g' k _ (fun e => hk (by simp [Value.ownBlock, e]))⟩, Or.inl rfl⟩
        · simp only [List.size_toArray, List.length_append, List.length_take, List.length_drop, Array.length_toList]
          omega
        · rw [htake, ← hlen]
          exact List.take_left
      · have holds : ∀ j u, ((List.range (n * i.size)).map f)[j]? = some u → w.cell? ((⟨g', 0, none⟩ : Addr).add j) = some u := World.ownsRow.cells hR (g := g') rfl
        have hr := run_append_grow (P := P) w t ty e i z ht hi hz ⟨g', 0, none⟩ n cap _ hR.1 holds ⟨b0, o0, none⟩ m c news hl hnw' (by omega) (by omega) (fits_far (by omega) hbytes)
        have hgr := grown cap (by omega) (Value.ownBlock (.slice (some ⟨g', 0, none⟩) n cap))
        exact ⟨_, _, hr, hgr.1, hgr.2, Or.inr rfl⟩

/-- At the operation, for the walk: whatever is known of the run. -/
theorem wpList_append_run {P : Program} (w : World) {ops : Array Oper} {rest : List Oper} {o : Oper} {a : Act} {Q : Exit → Act → World → Prop} (hgd : o.guard = none) (s x : Operand) (t : TypeId)
    (ho : o.op = .call { callee := .builtin .append, args := #[s, x], argTypes := #[t, t] }) (v u : Value) (hs : a.eval s = v) (hx : a.eval x = u) (R : Value → World → Prop)
    (hr : ∀ ty, ∃ v' w', (Builtin.append_ #[t, t] ty #[v, u]).run P w = .ok v' w' ∧ R v' w')
    (h : ∀ v' w', R v' w' → wpList P ops Q rest (a.put o.dst v') w') : wpList P ops Q (o :: rest) a w := by
  refine wpList_plain hgd fun K hK => ?_
  obtain ⟨v', w', hr, h2⟩ := hr o.type
  unfold Oper.wp execOp
  simp only [ho, resolve, invoke, builtin, Sem.run_bind, Sem.run_pure, Result.andThen_ok, List.map_toArray, List.map_cons, List.map_nil, hs, hx, hr]
  exact hK _ _ (h v' w' h2)
theorem step_append_run {P : Program} {ops : Array Oper} {o : Oper} {a : Act} {w : World} {K : Act → World → Prop} {Q : Exit → Act → World → Prop} {E : Prop}
    (hgd : o.guard = none) (s x : Operand) (t : TypeId) (ho : o.op = Op.call { callee := Callee.builtin Builtin.append, args := #[s, x], argTypes := #[t, t] }) (v u : Value) (hs : a.eval s = v) (hx : a.eval x = u) (R : Value → World → Prop)
    (hr : ∀ ty, ∃ v' w', (Builtin.append_ #[t, t] ty #[v, u]).run P w = .ok v' w' ∧ R v' w')
    (hK : ∀ v' w', R v' w' → K (a.put o.dst v') w') : if Region.wanted o (yielded ops a.tmps) = true then Oper.wp P o a w K Q else E := by
  have hw : Region.wanted o (yielded ops a.tmps) = true := by simp [Region.wanted, hgd]
  rw [if_pos hw]
  obtain ⟨v', w', hr, h2⟩ := hr o.type
  unfold Oper.wp
  simp [execOp, ho, resolve, invoke, builtin, hs, hx, hr, Result.andThen]
  exact hK v' w' h2

/-! What stays while rows of some elements grow -/
/-- All stands as it stood but for what lies at or behind base in rows of the elements ts. -/
structure Steady (ts : Nat → Bool) (base : Nat) (w w' : World) : Prop where
  below : Below base w w'
  keep : ∀ b, b < w.heap.size → (∀ cs t fz, w.heap[b]? = some (.cells cs t fz) → ts t = false) → w'.heap[b]? = w.heap[b]?
theorem Steady.refl (ts : Nat → Bool) (base : Nat) (w : World) : Steady ts base w w := ⟨Below.refl _ _, fun _ _ _ => rfl⟩
theorem Steady.trans {ts : Nat → Bool} {base : Nat} {w w1 w2 : World} (h : Steady ts base w w1) (h' : Steady ts base w1 w2) : Steady ts base w w2 :=
  ⟨h.below.trans h'.below, fun b hb hc => by
    have e := h.keep b hb hc
    exact (h'.keep b (Nat.lt_of_lt_of_le hb h.below.size) (fun cs t fz ho => hc cs t fz (e ▸ ho))).trans e⟩
theorem Steady.mono {ts ts' : Nat → Bool} {base : Nat} {w w' : World} (h : Steady ts base w w') (hts : ∀ t, ts t = true → ts' t = true) : Steady ts' base w w' :=
  ⟨h.below, fun b hb hc => h.keep b hb fun cs t fz ho => by
    cases e : ts t
    · rfl
    · rw [← hc cs t fz ho, hts t e]⟩
theorem steady_new {ts : Nat → Bool} {base : Nat} {w w' : World} (h : Below w.heap.size w w') (hb : base ≤ w.heap.size) : Steady ts base w w' :=
  ⟨h.mono hb, fun b hb _ => h.block b hb⟩
theorem steady_grown {ts : Nat → Bool} {base e size n : Nat} {w w' : World} {v : Value} {f : Nat → Value} (hR : Row w base e size v n f) (he : ts e = true) (hg : w.grownBy w' v.ownBlock) (hb : base ≤ w.heap.size) : Steady ts base w w' := by
  refine ⟨⟨hg.os, hg.tape, hg.output, hg.size, fun k hk => hg.block k (by omega) (fun e => by have := (hR.lt e.symm).1; omega)⟩, fun b hlt hc => hg.block b hlt fun e => ?_⟩
  obtain ⟨cs, ho⟩ := hR.obj e.symm
  rw [hc _ _ _ ho] at he
  cases he
theorem steady_set {ts : Nat → Bool} {base e b o : Nat} {w : World} {cs : Array Value} {fz : Nat × Nat} (ho : w.heap[b]? = some (.cells cs e fz)) (he : ts e = true) (hb : base ≤ b) (u : Value) : Steady ts base w (w.setCell ⟨b, o, none⟩ u) := by
  refine ⟨⟨rfl, rfl, rfl, by simp, fun k hk => Below.heap_setCell _ _ _ _ (by show k ≠ b; omega)⟩, fun k hk hc => Below.heap_setCell _ _ _ _ fun e' => ?_⟩
  have e' : k = b := e'
  subst e'
  rw [hc _ _ _ ho] at he
  cases he
theorem Row.steady {ts : Nat → Bool} {base base' e size n : Nat} {w w' : World} {v : Value} {f : Nat → Value} (hR : Row w base' e size v n f) (h : Steady ts base w w') (he : ts e = false) : Row w' base' e size v n f :=
  hR.at fun k hk => h.keep k (hR.lt hk).2 fun cs t fz ho => by
    obtain ⟨cs', ho'⟩ := hR.obj hk
    rw [ho'] at ho
    cases ho
    exact he
theorem Steady.block {ts : Nat → Bool} {base b t : Nat} {w w' : World} {cs : Array Value} {fz : Nat × Nat} (h : Steady ts base w w') (ho : w.heap[b]? = some (.cells cs t fz)) (ht : ts t = false) : w'.heap[b]? = some (.cells cs t fz) := by
  rw [h.keep b (lt_of_block ho) fun cs' t' fz' ho' => by rw [ho] at ho'; cases ho'; exact ht]
  exact ho
theorem Steady.mapBlock {ts : Nat → Bool} {base b : Nat} {w w' : World} {es : Array MapEntry} {clock : Nat} (h : Steady ts base w w') (ho : w.heap[b]? = some (.map es clock)) : w'.heap[b]? = some (.map es clock) := by
  rw [h.keep b (lt_of_block ho) fun cs' t' fz' ho' => by rw [ho] at ho'; cases ho']
  exact ho
/-- So it is, and so it stays. -/
def Stays (ts : Nat → Bool) (base : Nat) (w : World) (p : World → Prop) : Prop := ∀ w', Steady ts base w w' → p w'
theorem Stays.now {ts : Nat → Bool} {base : Nat} {w : World} {p : World → Prop} (h : Stays ts base w p) : p w := h w (Steady.refl _ _ _)
theorem Stays.then {ts : Nat → Bool} {base : Nat} {w w' : World} {p : World → Prop} (h : Stays ts base w p) (hs : Steady ts base w w') : Stays ts base w' p := fun w2 h2 => h w2 (hs.trans h2)

/-! A map of the call's own, from texts to numbers -/
theorem Try.keyed : Maps.Keyed Try.prog 9 := Maps.string_keyed Try.underlying9
theorem Try.zero3 (w : World) : (zeroValue 3).run Try.prog w = .ok (.int .i64 0) w := by kernel_rfl

/-- Block b is a map of at most n texts, that has at s what f says. -/
def TMap (w : World) (b n : Nat) (f : ByteArray → Option Int) : Prop :=
  ∃ D : DataW Unit, w.ownsMap Try.prog 9 (plainElem Try.prog 3) b n D ∧ ∀ s, Small s → Maps.has D (.string s.data.toList) = (f s).isSome ∧ D.atKey (.string s.data.toList) (.lit (.int .i64 0)) = .lit (.int .i64 ((f s).getD 0))
theorem TMap.made (w : World) : TMap (w.alloc (.map #[] 0)) w.heap.size 0 (fun _ => none) :=
  ⟨.map [], World.ownsMap_made w _ _ _, fun _ _ => ⟨rfl, rfl⟩⟩
theorem TMap.lt {w : World} {b n : Nat} {f : ByteArray → Option Int} (h : TMap w b n f) : b < w.heap.size := let ⟨_, h, _⟩ := h; h.lt
theorem TMap.at {w w' : World} {b n : Nat} {f : ByteArray → Option Int} (h : TMap w b n f) (hb : w'.heap[b]? = w.heap[b]?) : TMap w' b n f := by
  obtain ⟨D, ⟨es, clock, h1, h2⟩, h3⟩ := h
  exact ⟨D, ⟨es, clock, hb.trans h1, h2⟩, h3⟩
theorem TMap.kept {w w' : World} {b n : Nat} {f : ByteArray → Option Int} (h : TMap w b n f) (hB : Below w.heap.size w w') : TMap w' b n f := h.at (hB.block b h.lt)
theorem TMap.steady {ts : Nat → Bool} {base : Nat} {w w' : World} {b n : Nat} {f : ByteArray → Option Int} (h : TMap w b n f) (hS : Steady ts base w w') : TMap w' b n f := by
  obtain ⟨D, ⟨es, clock, h1, h2⟩, h3⟩ := h
  exact ⟨D, ⟨es, clock, hS.mapBlock h1, h2⟩, h3⟩
theorem TMap.congr {w : World} {b n : Nat} {f g : ByteArray → Option Int} (h : TMap w b n f) (e : ∀ s, Small s → f s = g s) : TMap w b n g := by
  obtain ⟨D, h1, h2⟩ := h
  exact ⟨D, h1, fun s hs => by rw [← e s hs]; exact h2 s hs⟩
theorem key_run {s : ByteArray} (hs : Small s) : keyOf Try.prog 9 (.string s) = some (.string s.data.toList) := WideMaps.keyOf_string_mk Try.underlying9 hs
theorem TMap.look {w : World} {b n : Nat} {f : ByteArray → Option Int} (h : TMap w b n f) {s : ByteArray} (hs : Small s) : (Instr.lookup 133 (.map (some b)) (.string s) false).run Try.prog w = .ok (.int .i64 ((f s).getD 0)) w := by
  obtain ⟨D, h1, h2⟩ := h
  obtain ⟨c, hr, hc, -⟩ := h1.lookup_int Try.keyed Try.underlying133 Try.underlying3 (Try.zero3 w) (key_run hs)
  rw [(h2 s hs).2] at hc
  cases hc
  exact hr
theorem TMap.look_ok {w : World} {b n : Nat} {f : ByteArray → Option Int} (h : TMap w b n f) {s : ByteArray} (hs : Small s) : (Instr.lookup 133 (.map (some b)) (.string s) true).run Try.prog w = .ok (.tuple #[.int .i64 ((f s).getD 0), .bool (f s).isSome]) w := by
  obtain ⟨D, h1, h2⟩ := h
  obtain ⟨v, ps, hr, hc⟩ := h1.look_ok Try.keyed Try.underlying133 (Try.zero3 w) (plainElem_int Try.underlying3 (by decide)) (key_run hs)
  obtain ⟨c, rfl, hc', -⟩ := plainElem_int_inv Try.underlying3 hc
  rw [(h2 s hs).2] at hc'
  cases hc'
  rw [(h2 s hs).1] at hr
  exact hr
theorem text_inj {s u : ByteArray} (h : s.data.toList = u.data.toList) : s = u := eqs_iff.1 (by unfold eqs; rw [h]; simp)
theorem TMap.store {w : World} {b n : Nat} {f : ByteArray → Option Int} (h : TMap w b n f) (hn : n < maxLen) {s : ByteArray} (hs : Small s) {x : Int} (hx : (Lit.int .i64 x).wf = true) :
    ∃ w', (Instr.mapUpdate 133 (.map (some b)) (.string s) (.int .i64 x)).run Try.prog w = .ok () w' ∧ TMap w' b (n + 1) (fun u => if eqs u s then some x else f u) ∧ w.mapTurned w' b := by
  obtain ⟨D, h1, h2⟩ := h
  have hm := h1.isMap
  obtain ⟨w', hr, h3, h4⟩ := h1.store Try.keyed Try.underlying133 hn (key_run hs) (plainElem_int Try.underlying3 hx)
  refine ⟨w', hr, ⟨_, h3, fun u hu => ?_⟩, h4⟩
  by_cases e : u = s
  · subst e
    have hk : WideAt.IsKeyLit (.string u.data.toList) := by simp [WideAt.IsKeyLit]
    simp only [if_pos (eqs_iff.2 (rfl : u = u))]
    rw [Maps.has_put_same hm hk, Maps.atKey_put_same hm hk]
    exact ⟨rfl, rfl⟩
  · have hne : (Lit.string u.data.toList) ≠ .string s.data.toList := fun h => e (text_inj (by simpa using h))
    have e' : eqs u s = false := by
      cases h : eqs u s
      · rfl
      · exact absurd (eqs_iff.1 h) e
    simp only [e']
    rw [Maps.has_put_other hne, Maps.atKey_put_other hne]
    exact h2 u hu
end Go.Proofs.Ytjjggefmmeminab
