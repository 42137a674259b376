/-
  Rows of the call's own, whose cells are told by a function of the place; a fault's own variable.
-/
import Derived.Test.YtjjggefmmeminabApp
import Derived.Test.YtjjggefmmeminabRows
namespace Go.Proofs.Ytjjggefmmeminab
open Go.RowKit Go.Sort

theorem Hid.intro {p : Prop} (h : p) : Hid p := h

/-! Rows whose cells are told by a function of the place -/
def Row (w : World) (base : Nat) (e : TypeId) (size : Nat) (v : Value) (n : Nat) (f : Nat → Value) : Prop := w.ownsRow base e size v n ((List.range (n * size)).map f)

theorem range_map_congr {n : Nat} {f g : Nat → Value} (h : ∀ j, j < n → f j = g j) : (List.range n).map f = (List.range n).map g :=
  List.map_congr_left fun j hj => h j (by simpa using hj)
theorem range_map_set {n j : Nat} {f : Nat → Value} {u : Value} : ((List.range n).map f).set j u = (List.range n).map (fun i => if i = j then u else f i) := by
  apply List.ext_getElem?
  intro i
  rw [List.getElem?_set]
  by_cases hij : j = i
  · subst hij
    by_cases hi : j < n
    · simp [hi]
    · simp [hi]
  · rw [if_neg hij]
    by_cases hi : i < n
    · simp [hi, Ne.symm hij]
    · simp [hi]
theorem Row.congr {w : World} {base e size n : Nat} {v : Value} {f g : Nat → Value} (h : Row w base e size v n f) (hfg : ∀ j, j < n * size → f j = g j) : Row w base e size v n g := by
  unfold Row at *; rw [← range_map_congr hfg]; exact h
theorem Row.shape {w : World} {base e size n : Nat} {v : Value} {f : Nat → Value} (h : Row w base e size v n f) : (v = .slice none 0 0 ∧ n = 0) ∨ ∃ g cap, v = .slice (some ⟨g, 0, none⟩) n cap ∧ base ≤ g ∧ n ≤ cap ∧ cap ≤ maxLen := by
  rcases h.2 with h | ⟨g, cap, cur, hv, hb, -, hn, hm, -⟩
  · exact .inl h
  · exact .inr ⟨g, cap, hv, hb, hn, hm⟩
theorem Row.cell {w : World} {base e size n g cap : Nat} {f : Nat → Value} (h : Row w base e size (.slice (some ⟨g, 0, none⟩) n cap) n f) {j : Nat} (hj : j < n * size) : w.cell? ⟨g, j, none⟩ = some (f j) := by
  have := World.ownsRow.cellAt h j hj
  rw [this]; simp [hj]
theorem Row.free {w : World} {base e size n g cap : Nat} {f : Nat → Value} (h : Row w base e size (.slice (some ⟨g, 0, none⟩) n cap) n f) (j : Nat) : w.frozen? ⟨g, j, none⟩ = false := World.ownsRow.frozenAt h j
theorem Row.set {w : World} {base e size n g cap : Nat} {f : Nat → Value} (h : Row w base e size (.slice (some ⟨g, 0, none⟩) n cap) n f) (j : Nat) (u : Value) : Row (w.setCell ⟨g, j, none⟩ u) base e size (.slice (some ⟨g, 0, none⟩) n cap) n (fun i => if i = j then u else f i) := by
  unfold Row
  rw [← range_map_set]
  exact (World.ownsRow.stored h j u).1
/-- The block stands as it stood. -/
theorem Row.at {w w' : World} {base e size n : Nat} {v : Value} {f : Nat → Value} (h : Row w base e size v n f) (hb : ∀ k, v.ownBlock = some k → w'.heap[k]? = w.heap[k]?) : Row w' base e size v n f := by
  refine ⟨h.1, ?_⟩
  rcases h.2 with h | ⟨g, cap, cur, rfl, hg, hh, r⟩
  · exact .inl h
  · exact .inr ⟨g, cap, cur, rfl, hg, (hb g rfl).trans hh, r⟩
theorem Row.obj {w : World} {base e size n : Nat} {v : Value} {f : Nat → Value} (h : Row w base e size v n f) {k : Nat} (hk : v.ownBlock = some k) : ∃ cur, w.heap[k]? = some (.cells cur e (0, 0)) := by
  rcases h.2 with ⟨rfl, _⟩ | ⟨g, cap, cur, rfl, hg, hh, r⟩
  · cases hk
  · cases hk; exact ⟨cur, hh⟩
theorem Row.lt {w : World} {base e size n : Nat} {v : Value} {f : Nat → Value} (h : Row w base e size v n f) {k : Nat} (hk : v.ownBlock = some k) : base ≤ k ∧ k < w.heap.size := World.ownsRow.lt h k hk
theorem Row.set_other {w : World} {base e size n : Nat} {v : Value} {f : Nat → Value} (h : Row w base e size v n f) {p : Addr} (hp : v.ownBlock ≠ some p.block) (u : Value) : Row (w.setCell p u) base e size v n f :=
  h.at fun k hk => Below.heap_setCell _ _ _ _ (fun e => hp (by rw [hk, e]))
theorem Row.grown {w w' : World} {base e size n : Nat} {v : Value} {f : Nat → Value} {row : Option Nat} (h : Row w base e size v n f) (hg : w.grownBy w' row) (hr : ∀ k, v.ownBlock = some k → row ≠ some k) : Row w' base e size v n f :=
  h.at fun k hk => hg.block k (h.lt hk).2 (fun e => hr k hk e.symm)
theorem Row.kept {w w' : World} {base e size n : Nat} {v : Value} {f : Nat → Value} (h : Row w base e size v n f) (hB : Below w.heap.size w w') : Row w' base e size v n f :=
  h.at fun k hk => hB.block k (h.lt hk).2
/-- Rows of different elements are different blocks. -/
theorem Row.ne {w : World} {base base' e e' size size' n n' : Nat} {v v' : Value} {f f' : Nat → Value} (h : Row w base e size v n f) (h' : Row w base' e' size' v' n' f') (he : e ≠ e') {k : Nat} (hk : v.ownBlock = some k) : v'.ownBlock ≠ some k := by
  intro hk'
  obtain ⟨c, h1⟩ := h.obj hk
  obtain ⟨c', h2⟩ := h'.obj hk'
  rw [h1] at h2
  simp at h2
  exact he h2.2

def textCell (O : Nat → ByteArray) (j : Nat) : Value := .string (O j)
theorem Row.slice {w : World} {base e size n : Nat} {v : Value} {f : Nat → Value} (h : Row w base e size v n f) : ∃ a cap, v = .slice a n cap ∧ n ≤ cap := by
  rcases h.shape with ⟨rfl, rfl⟩ | ⟨g, cap, rfl, -, hc, -⟩
  · exact ⟨none, 0, rfl, Nat.le_refl _⟩
  · exact ⟨_, cap, rfl, hc⟩

theorem Row.keysAt {w : World} {base e n : Nat} {v : Value} {O : Nat → ByteArray} (h : Row w base e 1 v n (textCell O)) (hn : n ≤ maxLen) (hg : ∀ j, j < n → Small (O j)) : ∃ a cap, v = .slice a n cap ∧ n ≤ cap ∧ KeysAt w a n O := by
  rcases h.shape with ⟨rfl, rfl⟩ | ⟨g, cap, rfl, -, hc, -⟩
  · exact ⟨none, 0, rfl, Nat.le_refl _, Nat.zero_le _, fun i hi => absurd hi (Nat.not_lt_zero _)⟩
  · refine ⟨_, cap, rfl, hc, hn, fun i hi => ⟨g, 0, rfl, ?_, hg i hi⟩⟩
    rw [h.cell (by omega), Nat.zero_add]; rfl

/-- A fault's block, stored: what the world is then good for. -/
structure Boxed (w Z : World) (b : Nat) (x y : Int) : Prop where
  blk : Z.heap[b]? = some (.cells #[.int .i64 x, .int .i64 y] 30 (0, 0))
  keep : ∀ k, k < w.heap.size → k ≠ b → Z.heap[k]? = w.heap[k]?
  old : ∀ o, w.heap[b]? = some o → ∃ c, o = .cells c 30 (0, 0)
  os : Z.os = w.os
  tape : Z.tape = w.tape
  output : Z.output = w.output
  size : w.heap.size ≤ Z.heap.size
theorem Boxed.below {w0 w Z : World} {b B : Nat} {x y : Int} (h : Boxed w Z b x y) (hb : Below B w0 w) (hB : B ≤ b) (hw : B ≤ w.heap.size) : Below B w0 Z :=
  hb.trans ⟨h.os, h.tape, h.output, h.size, fun k hk => h.keep k (by omega) (by omega)⟩
theorem box_cells {w : World} {b : Nat} {x y : Int} (h : w.heap[b]? = some (.cells #[.int .i64 x, .int .i64 y] 30 (0, 0))) : w.cell? ⟨b, 0, none⟩ = some (.int .i64 x) ∧ w.cell? ⟨b, 1, none⟩ = some (.int .i64 y) ∧ w.frozen? ⟨b, 0, none⟩ = false ∧ w.frozen? ⟨b, 1, none⟩ = false := by
  simp [World.cell?, World.frozen?, h]
theorem boxed_set {w : World} {b : Nat} {x y u v : Int} (h : w.heap[b]? = some (.cells #[.int .i64 x, .int .i64 y] 30 (0, 0))) : Boxed w ((w.setCell ⟨b, 0, none⟩ (.int .i64 u)).setCell ⟨b, 1, none⟩ (.int .i64 v)) b u v := by
  have h1 := heap_setCell_same w b 0 _ 30 (.int .i64 u) h
  have h2 := heap_setCell_same _ b 1 _ 30 (.int .i64 v) h1
  refine ⟨by rw [h2]; rfl, fun k _ hk => ?_, fun o ho => by rw [h] at ho; cases ho; exact ⟨_, rfl⟩, rfl, rfl, rfl, by simp⟩
  rw [Below.heap_setCell _ _ _ _ hk, Below.heap_setCell _ _ _ _ hk]
theorem boxed_alloc (w : World) (u v : Int) : Boxed w (w.alloc (.cells #[.int .i64 u, .int .i64 v] 30)) w.heap.size u v :=
  ⟨heap_alloc_new _ _, fun k hk _ => Below.heap_alloc _ _ _ hk, fun o ho => by have := lt_of_block ho; omega, rfl, rfl, rfl, by simp⟩
theorem Boxed.c0 {w Z : World} {b : Nat} {x y : Int} (h : Boxed w Z b x y) : Z.cell? ⟨b, 0, none⟩ = some (.int .i64 x) := by simp [World.cell?, h.blk]
theorem Boxed.c1 {w Z : World} {b : Nat} {x y : Int} (h : Boxed w Z b x y) : Z.cell? ⟨b, 1, none⟩ = some (.int .i64 y) := by simp [World.cell?, h.blk]
theorem Boxed.cell {w Z : World} {b : Nat} {x y : Int} (h : Boxed w Z b x y) {p : Addr} {v : Value} (hp : w.cell? p = some v) (hne : p.block ≠ b) : Z.cell? p = some v :=
  (World.cell?_of_block (w := w) (h.keep p.block (block_lt_of_cell hp) hne)).trans hp

theorem alloc_news (w : World) (cs : Array Value) (t : TypeId) : ∀ ad, some (⟨w.heap.size, 0, none⟩ : Addr) = some ad → ∀ j u, cs.toList[j]? = some u → (w.alloc (.cells cs t)).cell? (ad.add j) = some u := by
  intro ad had j u hu
  cases had
  rw [WideShapes.add_plain, World.cell?_alloc_at _ _ _ _ rfl]
  simpa using hu

theorem Try.info9 : (Try.prog.info? 9).map (fun i => (i.zero, i.size, i.bytes)) = some (some (.string ⟨#[]⟩), 1, 16) := by kernel_rfl
end Go.Proofs.Ytjjggefmmeminab
