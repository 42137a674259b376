import Derived.Test.YtjjggefmmeminabGreatRfDo
import Derived.Test.YtjjggefmmeminabGreatRefWrong
import Derived.Test.YtjjggefmmeminabGreatJPl
import Derived.Test.YtjjggefmmeminabGreatJBase
/-
  The contract of stitchref1.See.
-/
namespace Go.Proofs.YtjjggefmmeminabGreat
open Go.RowKit Go.Sort

theorem opStep_append2 {P : Program} {o : Oper} {s : Nat → Value} {w : World} {K : (Nat → Value) → World → Prop} (x y : Operand) (t : TypeId) (ho : o.op = Op.call { callee := Callee.builtin Builtin.append, args := #[x, y], argTypes := #[t, t] })
    (base : Nat) (e : TypeId) (i : TypeInfo) (z : Value) (size bytes : Nat) (ht : P.underlying t = some (.slice e)) (hi : P.info? e = some i) (hz : i.zero = some z)
    (hsize : i.size = size) (hby : i.bytes = bytes) (hzs : z.cells.size = size) (hsz : 0 < size)
    (v : Value) (n : Nat) (xs : List Value) (hx : evalS s x = v) (hown : w.ownsRow base e size v n xs)
    (src : Option Addr) (m c : Nat) (news : List Value) (hy : evalS s y = .slice src m c) (hl : news.length = m * size) (hnews : ∀ ad, src = some ad → ∀ j u, news[j]? = some u → w.cell? (ad.add j) = some u) (hnil : src = none → m = 0) (h1 : ∀ u ∈ news, u.oneCell' = true)
    (h63 : n + m ≤ maxLen) (hbytes : (n + m) * bytes ≤ 140737488355328) (hbase : base ≤ w.heap.size)
    (hK : ∀ v' w', w'.ownsRow base e size v' (n + m) (xs ++ news) → w.grownBy w' v.ownBlock → (v'.ownBlock = v.ownBlock ∨ v'.ownBlock = some w.heap.size) → K (updS s o.dst v') w') : OpStep P o s w K := by
  obtain ⟨v', w', hr, h2, h3, h5⟩ := run_append_any (P := P) w base t o.type e i z size bytes ht hi hz hsize hby hzs hsz v n xs hown src m c news hl hnews hnil h1 h63 hbytes hbase
  refine opStep_value (v := v') (w' := w') ?_ (hK v' w' h2 h3 h5)
  simp [execOp, ho, resolve, invoke, builtin, hx, hy, hr, Result.andThen]

def initLen (n : Nat) (T : Nat → LType) (k : Nat) : Nat := if k < 2 then n else (T (k - 2)).nf
def initTxt (T : Nat → LType) (k j : Nat) : ByteArray := if k < 2 then (T j).name else ((T (k - 2)).F j).name

def runR (n : Nat) (len : Nat → Nat) (txt : Nat → Nat → ByteArray) (C : Nat → PChange) : Nat → (Nat → Nat → ByteArray)
  | 0 => txt
  | k + 1 => (doR n len (runR n len txt C k) (C k)).2
def errR (n : Nat) (len : Nat → Nat) (txt : Nat → Nat → ByteArray) (C : Nat → PChange) (k : Nat) : Int := (doR n len (runR n len txt C k) (C k)).1
def seeR (n : Nat) (T : Nat → LType) (m : Nat) (C : Nat → PChange) : Int × Int := if (wrongS n T).1 ≠ 0 then wrongS n T else if 12 < m then (4, 0) else fault m (errR n (initLen n T) (initTxt T) C)

/-! The two appends and the two stores of one statement -/
structure G10 (W : World) (base bs k : Nat) (fv : Value) (rows : Nat → Value) (T : Nat → LType) (L : Nat → Bool) (s : Nat → Value) (w : World) : Prop where
  os : w.os = W.os
  tape : w.tape = W.tape
  output : w.output = W.output
  size : W.heap.size ≤ w.heap.size
  keep : ∀ b, b < W.heap.size → (rows 0).ownBlock ≠ some b → (rows 1).ownBlock ≠ some b → b ≠ bs → w.heap[b]? = W.heap[b]?
  box : ∃ x0 x1, w.heap[bs]? = some (.cells #[x0, x1, fv] 107 (0, 0)) ∧ (L 13 = false → x0 = rows 0) ∧ (L 15 = false → x1 = rows 1) ∧ (L 13 = true → x0 = s 39) ∧ (L 15 = true → x1 = s 45)
  old0 : L 5 = false → Row w base 9 1 (rows 0) k (textCell (initTxt T 0))
  old1 : L 11 = false → Row w base 9 1 (rows 1) k (textCell (initTxt T 1))
  cross : L 5 = true → L 11 = true → ∀ b, (s 39).ownBlock = some b → (s 45).ownBlock ≠ some b
theorem G10.next {W : World} {base bs k : Nat} {fv : Value} {rows : Nat → Value} {T : Nat → LType} {L L' : Nat → Bool} {s s' : Nat → Value} {w w' : World} (h : G10 W base bs k fv rows T L s w) (hb : Below w.heap.size w w') (h5 : L' 5 = L 5) (h11 : L' 11 = L 11) (h13 : L' 13 = L 13) (h15 : L' 15 = L 15) (e1 : s' 39 = s 39) (e2 : s' 45 = s 45) (hbs : bs < W.heap.size) : G10 W base bs k fv rows T L' s' w' := by
  refine ⟨hb.os.trans h.os, hb.tape.trans h.tape, hb.output.trans h.output, Nat.le_trans h.size hb.size, fun b h1 h2 h3 h4 => (hb.block b (Nat.lt_of_lt_of_le h1 h.size)).trans (h.keep b h1 h2 h3 h4), ?_, ?_, ?_, ?_⟩
  · obtain ⟨x0, x1, q0, q1, q2, q3, q4⟩ := h.box
    exact ⟨x0, x1, (hb.block bs (Nat.lt_of_lt_of_le hbs h.size)).trans q0, by rw [h13]; exact q1, by rw [h15]; exact q2, by rw [h13, e1]; exact q3, by rw [h15, e2]; exact q4⟩
  · rw [h5]; exact fun q => (h.old0 q).kept hb
  · rw [h11]; exact fun q => (h.old1 q).kept hb
  · rw [h5, h11, e1, e2]; exact h.cross

def pOne (B : Nat) (name : ByteArray) (x : Value) (w : World) : Prop := ∃ b, x = .slice (some ⟨b, 0, none⟩) 1 1 ∧ B ≤ b ∧ w.heap[b]? = some (.cells #[.string name] 9 (0, 0))
/-- A row with one text more, in the old block or in a new one. -/
def pNew (B base k : Nat) (old : Value) (K : Nat → ByteArray) (x : Value) (w : World) : Prop := Row w base 9 1 x (k + 1) (textCell K) ∧ (x.ownBlock = old.ownBlock ∨ ∃ b, x.ownBlock = some b ∧ B ≤ b)
theorem pOne.kept {B : Nat} {name : ByteArray} {x : Value} {w w' : World} (h : pOne B name x w) (hb : Below w.heap.size w w') : pOne B name x w' := let ⟨b, e, hB, ho⟩ := h; ⟨b, e, hB, blk_kept hb ho⟩
theorem pNew.kept {B base k : Nat} {old : Value} {K : Nat → ByteArray} {x : Value} {w w' : World} (h : pNew B base k old K x w) (hb : Below w.heap.size w w') : pNew B base k old K x w' := ⟨h.1.kept hb, h.2⟩

def con10 (k : Nat) : Nat := if k = 4 then 5 else if k = 10 then 11 else 99
def A10 (B base bs bt k : Nat) (rows : Nat → Value) (T : Nat → LType) (name : ByteArray) (_ : Nat → Bool) (i : Nat) (x : Value) (w : World) : Prop := match i with
  | 0 => x = .pointer (some ⟨bs, 0, none⟩)
  | 1 => x = rows 0
  | 2 => x = .pointer (some ⟨bt, 0, none⟩)
  | 3 => x = .string name
  | 4 => pOne B name x w
  | 5 => pNew B base k (rows 0) (initTxt T 0) x w
  | 6 => x = .pointer (some ⟨bs, 1, none⟩)
  | 7 => x = rows 1
  | 8 => x = .pointer (some ⟨bt, 0, none⟩)
  | 9 => x = .string name
  | 10 => pOne B name x w
  | 11 => pNew B base k (rows 1) (initTxt T 1) x w
  | 12 => x = .pointer (some ⟨bs, 0, none⟩)
  | 14 => x = .pointer (some ⟨bs, 1, none⟩)
  | _ => True
theorem A10_kept {B base bs bt k : Nat} {rows : Nat → Value} {T : Nat → LType} {name : ByteArray} {L L' : Nat → Bool} (i : Nat) {x : Value} {w w' : World} (hA : A10 B base bs bt k rows T name L i x w) (h4 : pOne B name x w → pOne B name x w') (h5 : i = 5 → pNew B base k (rows 0) (initTxt T 0) x w → pNew B base k (rows 0) (initTxt T 0) x w') (h11 : i = 11 → pNew B base k (rows 1) (initTxt T 1) x w → pNew B base k (rows 1) (initTxt T 1) x w') : A10 B base bs bt k rows T name L' i x w' := by
  unfold A10 at *
  split
  · exact hA
  · exact hA
  · exact hA
  · exact hA
  · exact h4 hA
  · exact h5 rfl hA
  · exact hA
  · exact hA
  · exact hA
  · exact hA
  · exact h4 hA
  · exact h11 rfl hA
  · exact hA
  · exact hA
  · trivial

structure FB2 (w wr : World) : Prop where
  below : Below w.heap.size w wr
  hrs : wr.heap[w.heap.size]? = some (.cells #[.slice none 0 0, .slice none 0 0, .slice none 0 0] 107 (0, 0))
  hrf : wr.heap[w.heap.size + 1]? = some (.cells #[.int .i64 0, .int .i64 0] 39 (0, 0))
theorem FB2.next {w wr w' : World} {B : Nat} (h : FB2 w wr) (hb : Below B wr w') (hB : w.heap.size + 1 < B) : FB2 w w' :=
  ⟨h.below.trans (hb.mono (by omega)), (hb.block _ (by omega)).trans h.hrs, (hb.block _ hB).trans h.hrf⟩
theorem FB2.lt {w wr : World} (h : FB2 w wr) : w.heap.size + 1 < wr.heap.size := lt_of_block h.hrf
theorem FB2.start (w : World) : FB2 w ((w.alloc (.cells #[.slice none 0 0, .slice none 0 0, .slice none 0 0] 107)).alloc (.cells #[.int .i64 0, .int .i64 0] 39)) :=
  ⟨below2 _ _ _, (Below.heap_alloc _ _ _ (by simp)).trans (heap_alloc_new _ _), (show w.heap.size + 1 = (w.alloc (.cells #[.slice none 0 0, .slice none 0 0, .slice none 0 0] 107)).heap.size by simp) ▸ heap_alloc_new _ _⟩
theorem FB2.cells {w wr : World} (h : FB2 w wr) : wr.cell? ⟨w.heap.size, 0, none⟩ = some (.slice none 0 0) ∧ wr.cell? ⟨w.heap.size, 1, none⟩ = some (.slice none 0 0) ∧ wr.cell? ⟨w.heap.size, 2, none⟩ = some (.slice none 0 0) ∧ wr.frozen? ⟨w.heap.size, 0, none⟩ = false ∧ wr.frozen? ⟨w.heap.size, 1, none⟩ = false ∧ wr.frozen? ⟨w.heap.size, 2, none⟩ = false := by
  simp [World.cell?, World.frozen?, h.hrs]

theorem FB2.set {w wr : World} (h : FB2 w wr) (u0 u1 u2 u3 u4 : Value) : Below w.heap.size w (((((wr.setCell ⟨w.heap.size, 0, none⟩ u0).setCell ⟨w.heap.size, 1, none⟩ u1).setCell ⟨w.heap.size, 2, none⟩ u2).setCell ⟨w.heap.size + 1, 0, none⟩ u3).setCell ⟨w.heap.size + 1, 1, none⟩ u4) :=
  ((((h.below.setCell (Nat.le_refl _) _).setCell (Nat.le_refl _) _).setCell (Nat.le_refl _) _).setCell (Nat.le_succ _) _).setCell (Nat.le_succ _) _
theorem RS.low {w : World} {base bs n : Nat} {fv : Value} {rows : Nat → Value} {len : Nat → Nat} {txt : Nat → Nat → ByteArray} (h : RS w base bs n fv rows len txt) {p : Addr} (hp : p.block < base) (u : Value) : RS (w.setCell p u) base bs n fv rows len txt :=
  ⟨h.hbs, (Below.heap_setCell _ _ _ _ (by have := h.hbs; omega)).trans h.box, h.frow.set_other (fun e => by have := (h.frow.lt e).1; omega) _, fun k hk => (h.texts k hk).set_other (fun e => by have := ((h.texts k hk).lt e).1; omega) _, h.apart, h.lens, h.good, h.nmax⟩
theorem rs_start (w : World) (T : Nat → LType) : RS (w.alloc (.cells #[.slice none 0 0, .slice none 0 0, .slice none 0 0] 107)) w.heap.size w.heap.size 0 (.slice none 0 0) (fun _ => .slice none 0 0) (initLen 0 T) (initTxt T) := by
  refine ⟨Nat.le_refl _, heap_alloc_new _ _, World.ownsRow_nil _ _ _ _, fun k hk => ?_, fun j k _ _ _ b hb => (by cases hb), fun k hk => ?_, fun k hk j hj => ?_, Nat.zero_le _⟩
  · have : initLen 0 T k = 0 := by unfold initLen; rw [if_pos (by omega)]
    rw [this]; exact World.ownsRow_nil _ _ _ _
  · unfold initLen; rw [if_pos (by omega)]; exact Nat.zero_le _
  · unfold initLen at hj; rw [if_pos (by omega)] at hj; exact absurd hj (Nat.not_lt_zero _)

theorem initLen_succ_lo {k : Nat} {T : Nat → LType} {i : Nat} (h : i < 2) : initLen (k + 1) T i = k + 1 := by unfold initLen; rw [if_pos h]
theorem initLen_hi {k k' : Nat} {T : Nat → LType} {i : Nat} (h : ¬ i < 2) : initLen k' T i = initLen k T i := by unfold initLen; rw [if_neg h, if_neg h]
theorem rs_two {W w : World} {base bs k : Nat} {fv : Value} {rows : Nat → Value} {T : Nat → LType} {L : Nat → Bool} {s : Nat → Value} (h : RS W base bs k fv rows (initLen k T) (initTxt T)) (hsn : Small (T k).name) (hG : G10 W base bs k fv rows T L s w) (h13 : L 13 = true) (h15 : L 15 = true) (h5 : L 5 = true) (h11 : L 11 = true)
    (hn0 : Row w base 9 1 (s 39) (k + 1) (textCell (initTxt T 0))) (ht0 : (s 39).ownBlock = (rows 0).ownBlock ∨ ∃ b, (s 39).ownBlock = some b ∧ W.heap.size ≤ b) (hn1 : Row w base 9 1 (s 45) (k + 1) (textCell (initTxt T 1))) (ht1 : (s 45).ownBlock = (rows 1).ownBlock ∨ ∃ b, (s 45).ownBlock = some b ∧ W.heap.size ≤ b) :
    RS w base bs k fv (fun j => if j = 0 then s 39 else if j = 1 then s 45 else rows j) (initLen (k + 1) T) (initTxt T) := by
  obtain ⟨x0, x1, q0, -, -, q3, q4⟩ := hG.box
  rw [q3 h13, q4 h15] at q0
  have r0 := h.texts 0 (by omega)
  have r1 := h.texts 1 (by omega)
  have keepRow : ∀ {e sz m : Nat} {u : Value} {f : Nat → Value}, Row W base e sz u m f → (∀ b, u.ownBlock = some b → (rows 0).ownBlock ≠ some b ∧ (rows 1).ownBlock ≠ some b ∧ b ≠ bs) → Row w base e sz u m f := fun hr hne => hr.at fun b hb => hG.keep b (hr.lt hb).2 (hne b hb).1 (hne b hb).2.1 (hne b hb).2.2
  have old : ∀ i, 2 ≤ i → i < k + 2 → ∀ b, (rows i).ownBlock = some b → b < W.heap.size ∧ (rows 0).ownBlock ≠ some b ∧ (rows 1).ownBlock ≠ some b ∧ b ≠ bs := fun i h2 hi b hb => ⟨((h.texts i hi).lt hb).2, h.apart i 0 hi (by omega) (by omega) b hb, h.apart i 1 hi (by omega) (by omega) b hb, fun e => (h.texts i hi).box_ne hb h.box (by decide) e.symm⟩
  have n0 : ∀ i, 2 ≤ i → i < k + 2 → ∀ b, (rows i).ownBlock = some b → (s 39).ownBlock ≠ some b := fun i h2 hi b hb e => by
    obtain ⟨o1, o2, o3, o4⟩ := old i h2 hi b hb
    rcases ht0 with h' | ⟨b', h', hB⟩
    · exact o2 (by rw [← h']; exact e)
    · rw [e] at h'; cases h'; omega
  have n1 : ∀ i, 2 ≤ i → i < k + 2 → ∀ b, (rows i).ownBlock = some b → (s 45).ownBlock ≠ some b := fun i h2 hi b hb e => by
    obtain ⟨o1, o2, o3, o4⟩ := old i h2 hi b hb
    rcases ht1 with h' | ⟨b', h', hB⟩
    · exact o3 (by rw [← h']; exact e)
    · rw [e] at h'; cases h'; omega
  have hc := hG.cross h5 h11
  refine ⟨h.hbs, by simpa using q0, (keepRow h.frow fun b hb => ⟨h.frow.ne r0 (by decide) hb, h.frow.ne r1 (by decide) hb, fun e => h.frow.box_ne hb h.box (by decide) e.symm⟩).congr fun j hj => ?_, fun i hi => ?_, fun i j hi hj hij b hb => ?_, fun i hi => ?_, fun i hi j hj => ?_, h.nmax⟩
  · simp [show ¬ 2 + j = 1 by omega]
  · by_cases e0 : i = 0
    · subst e0; rw [initLen_succ_lo (by decide)]; exact hn0
    · by_cases e1 : i = 1
      · subst e1; rw [initLen_succ_lo (by decide)]; exact hn1
      · simp only [e0, e1, if_false]
        rw [initLen_hi (k := k) (by omega)]
        exact keepRow (h.texts i hi) fun b hb => (old i (by omega) hi b hb).2
  · by_cases i0 : i = 0
    · subst i0
      by_cases j1 : j = 1
      · subst j1
        simp only [if_pos, show ¬ (1 : Nat) = 0 by decide, if_false] at hb ⊢
        exact hc b hb
      · simp only [if_pos, show ¬ j = 0 by omega, j1, if_false] at hb ⊢
        exact fun e => n0 j (by omega) hj b e hb
    · by_cases i1 : i = 1
      · subst i1
        by_cases j0 : j = 0
        · subst j0
          simp only [if_pos, show ¬ (1 : Nat) = 0 by decide, if_false] at hb ⊢
          exact fun e => hc b e hb
        · simp only [if_pos, show ¬ (1 : Nat) = 0 by decide, j0, show ¬ j = 1 by omega, if_false] at hb ⊢
          exact fun e => n1 j (by omega) hj b e hb
      · simp only [i0, i1, if_false] at hb
        by_cases j0 : j = 0
        · subst j0; simp only [if_pos]; exact n0 i (by omega) hi b hb
        · by_cases j1 : j = 1
          · subst j1; simp only [show ¬ (1 : Nat) = 0 by decide, if_false, if_pos]; exact n1 i (by omega) hi b hb
          · simp only [j0, j1, if_false]; exact h.apart i j hi hj hij b hb
  · by_cases i2 : i < 2
    · rw [initLen_succ_lo i2]
      have := h.nmax
      have h0 := hn0.1
      rcases hn0.shape with ⟨-, h'⟩ | ⟨g, cap, -, -, hc1, hc2⟩
      · omega
      · exact Nat.le_trans hc1 hc2
    · rw [initLen_hi (k := k) i2]; exact h.lens i hi
  · by_cases i2 : i < 2
    · rw [initLen_succ_lo i2] at hj
      by_cases hjk : j < k
      · exact h.good i hi j (by unfold initLen; rw [if_pos i2]; exact hjk)
      · have : j = k := by omega
        subst this
        unfold initTxt; rw [if_pos i2]; exact hsn
    · rw [initLen_hi (k := k) i2] at hj; exact h.good i hi j hj
theorem FB2.two {w0 W w : World} {base bs k : Nat} {fv : Value} {rows : Nat → Value} {T : Nat → LType} {L : Nat → Bool} {s : Nat → Value} (hF : FB2 w0 W) (h : RS W base bs k fv rows (initLen k T) (initTxt T)) (hG : G10 W base bs k fv rows T L s w) (hb : w0.heap.size + 1 < base) : FB2 w0 w := by
  have hk : ∀ b, b < base → w.heap[b]? = W.heap[b]? := fun b hbb => hG.keep b (by have := lt_of_block h.box; have := h.hbs; omega) (fun e => by have := ((h.texts 0 (by omega)).lt e).1; omega) (fun e => by have := ((h.texts 1 (by omega)).lt e).1; omega) (by have := h.hbs; omega)
  exact ⟨hF.below.trans ⟨hG.os, hG.tape, hG.output, hG.size, fun b hbb => hk b (by omega)⟩, (hk _ (by omega)).trans hF.hrs, (hk _ hb).trans hF.hrf⟩

theorem Tryz.info65 : (Tryz.prog.info? 65).map (fun i => (i.zero, i.size, i.bytes)) = some (some (.slice none 0 0), 1, 24) := by kernel_rfl
theorem rs_more {w wr w6 : World} {base bs k : Nat} {fv fv' v : Value} {rows : Nat → Value} {T : Nat → LType} {X : Obj} (h : RS w base bs k fv rows (initLen (k + 1) T) (initTxt T)) (hk : k < 1000) (hbase : base ≤ w.heap.size) (hb : Below w.heap.size w wr) (hv : Row wr w.heap.size 9 1 v (T k).nf (textCell (fun q => ((T k).F q).name))) (hnf : (T k).nf ≤ maxLen) (hgood : ∀ j, j < (T k).nf → Small ((T k).F j).name)
    (hg : (wr.alloc X).grownBy w6 fv.ownBlock) (hr : w6.ownsRow base 65 1 fv' (k + 1) ((List.range (k * 1)).map (fun i => rows (2 + i)) ++ [v])) :
    RS (w6.setCell ⟨bs, 2, none⟩ fv') base bs (k + 1) fv' (fun j => if j = k + 2 then v else rows j) (initLen (k + 1) T) (initTxt T) := by
  have h1 := (h.kept hb).kept (below1 wr X)
  have hv1 := hv.kept (below1 wr X)
  have hbox : w6.heap[bs]? = some (.cells #[rows 0, rows 1, fv] 107 (0, 0)) := (hg.block bs (lt_of_block h1.box) (fun e => h1.frow.box_ne e.symm h1.box (by decide) rfl)).trans h1.box
  have hset := heap_setCell_same w6 bs 2 _ 107 fv' hbox
  have hst : ∀ {B' e sz m : Nat} {u : Value} {f : Nat → Value}, e ≠ 107 → Row w6 B' e sz u m f → Row (w6.setCell ⟨bs, 2, none⟩ fv') B' e sz u m f := fun he hr => hr.set_other (p := ⟨bs, 2, none⟩) (fun e' => hr.box_ne e' hbox he rfl) _
  have hrow : Row w6 base 65 1 fv' (k + 1) (fun i => if 2 + i = k + 2 then v else rows (2 + i)) := by
    unfold Row
    rw [show (k + 1) * 1 = k * 1 + 1 by omega, List.range_succ, List.map_append]
    have e : (List.range (k * 1)).map (fun i => if 2 + i = k + 2 then v else rows (2 + i)) = (List.range (k * 1)).map (fun i => rows (2 + i)) := range_map_congr fun j hj => by rw [if_neg (by omega)]
    rw [e]
    simp only [List.map_cons, List.map_nil]
    rw [if_pos (by omega)]
    exact hr
  have fresh : ∀ i, i < k + 2 → ∀ b, (rows i).ownBlock = some b → v.ownBlock ≠ some b := fun i hi b hb1 e => by
    have q1 := ((h.texts i hi).lt hb1).2
    have q2 := (hv.lt e).1
    omega
  refine ⟨h.hbs, ?_, hst (by decide) hrow, fun i hi => hst (by decide) ?_, fun i j hi hj hij b hb1 => ?_, fun i hi => ?_, fun i hi j hj => ?_, by unfold maxLen; omega⟩
  · rw [hset]
    simp
  · by_cases e : i = k + 2
    · subst e
      rw [if_pos rfl, show initLen (k + 1) T (k + 2) = (T k).nf by unfold initLen; rw [if_neg (by omega)]; rfl]
      refine ((hv1.grown hg fun b hb1 => hv1.ne h1.frow (by decide) hb1).base hbase).congr fun q hq => ?_
      unfold textCell initTxt; rw [if_neg (by omega)]; rfl
    · rw [if_neg e]
      exact (h1.texts i (by omega)).grown hg fun b hb1 => (h1.texts i (by omega)).ne h1.frow (by decide) hb1
  · by_cases e : i = k + 2
    · have e2 : ¬ j = k + 2 := by omega
      simp only [e, e2, if_pos, if_false] at hb1 ⊢
      exact fun e3 => fresh j (by omega) b e3 hb1
    · by_cases e2 : j = k + 2
      · simp only [e, e2, if_pos, if_false] at hb1 ⊢
        exact fresh i (by omega) b hb1
      · simp only [e, e2, if_false] at hb1 ⊢
        exact h.apart i j (by omega) (by omega) hij b hb1
  · by_cases e : i = k + 2
    · subst e
      rw [show initLen (k + 1) T (k + 2) = (T k).nf by unfold initLen; rw [if_neg (by omega)]; rfl]; exact hnf
    · exact h.lens i (by omega)
  · by_cases e : i = k + 2
    · subst e
      rw [show initLen (k + 1) T (k + 2) = (T k).nf by unfold initLen; rw [if_neg (by omega)]; rfl] at hj
      unfold initTxt; rw [if_neg (by omega)]; exact hgood j hj
    · exact h.good i (by omega) j hj

def seeAgg (x0 x1 fv : Value) (h : Int × Int) : Value := .tuple #[.agg #[x0, x1, fv], .agg #[.int .i64 h.1, .int .i64 h.2]]

set_option maxRecDepth 100000 in
set_option maxHeartbeats 4000000 in
theorem refSee_any (a ca : Option Addr) (n cap m ccap : Nat) (T : Nat → LType) (C : Nat → PChange) (w : World) (hT : TypesAt w a n T) (hC : ChangesAt w ca m C) (hcap : n ≤ cap) :
    Calls Tryz.prog 39 #[.slice a n cap, .slice ca m ccap] w fun e w' => (∃ x0 x1 fv, e = .returned (seeAgg x0 x1 fv (seeR n T m C)) ∧ ((seeR n T m C).1 = 0 → ∃ base bs rows, rows 0 = x0 ∧ rows 1 = x1 ∧ RS w' base bs n fv rows (initLen n T) (runR n (initLen n T) (initTxt T) C m)) ∧ (∃ b l c, x0 = .slice b l c) ∧ (∃ b l c, x1 = .slice b l c) ∧ ∃ b l c, fv = .slice b l c) ∧ Below w.heap.size w w' := by
  have hm : m ≤ 9223372036854775807 := hC.1
  have HT : Hid (TypesAt w a n T) := hT
  have HC : Hid (ChangesAt w ca m C) := hC
  have hfd := field0_run
  clear hT hC
  go_enter Tryz.func39, Tryz.ntmps39
  go_wp2_with fail
  have hF0 := FB2.start w
  generalize (w.alloc (Obj.cells #[.slice none 0 0, .slice none 0 0, .slice none 0 0] 107)).alloc (Obj.cells #[.int .i64 0, .int .i64 0] 39) = W0 at *
  refine (refWrong_any a n cap T W0 (HT.out.kept hF0.below) hcap).mono ?_
  rintro e w1 ⟨rfl, hw1⟩
  have hF1 := hF0.next hw1 hF0.lt
  clear hw1 hF0
  unfold faultV
  generalize hr : wrongS n T = r at *
  have HR : Hid (wrongS n T = r) := hr
  clear hr
  have hF2 := hF1.next (below1 w1 (Obj.cells #[.int .i64 r.1, .int .i64 r.2] 39)) hF1.lt
  generalize hW2 : w1.alloc (Obj.cells #[.int .i64 r.1, .int .i64 r.2] 39) = W2 at *
  have k0 : W2.cell? ⟨w1.heap.size, 0, none⟩ = some (.int .i64 r.1) := by rw [← hW2, World.cell?_alloc_at _ _ _ _ rfl]; rfl
  have k1 : W2.cell? ⟨w1.heap.size, 1, none⟩ = some (.int .i64 r.2) := by rw [← hW2, World.cell?_alloc_at _ _ _ _ rfl]; rfl
  obtain ⟨p0, p1, p2, p3, p4, p5⟩ := hF2.cells
  obtain ⟨v0, v1, z0, z1⟩ := box_cells hF2.hrf
  have HF2 : Hid (FB2 w W2) := hF2
  have hlt1 : w.heap.size + 1 < w1.heap.size := hF1.lt
  have ne1 : ¬ w1.heap.size = w.heap.size := by omega
  have ne2 : ¬ w.heap.size = w1.heap.size := by omega
  have ne3 : ¬ w1.heap.size = w.heap.size + 1 := by omega
  have ne4 : ¬ w.heap.size + 1 = w1.heap.size := by omega
  clear hF1 hF2
  by_cases h1 : r.1 = 0
  case neg =>
    have h1b : (r.1 != 0) = true := by simpa using h1
    have hfin : Hid (seeR n T m C = r) := by unfold Hid seeR; rw [HR.out, if_pos h1]
    have H1 : Hid (¬ r.1 = 0) := h1
    clear h1
    go_wp2_with fail
    clear hW2
    go_region
    go_wp2_with fail
    exact bodyPost_ret (v := seeAgg (.slice none 0 0) (.slice none 0 0) (.slice none 0 0) r) (by unfold seeAgg; simp [results, Tryz.results39, go_sem, p0, p1, p2, v0, v1]) rfl ⟨⟨_, _, _, by rw [hfin.out], fun h => absurd (by rw [hfin.out] at h; exact h) H1.out, ⟨_, _, _, rfl⟩, ⟨_, _, _, rfl⟩, ⟨_, _, _, rfl⟩⟩, (HF2.out.set _ _ _ _ _).drew⟩
  have h1b : (r.1 != 0) = false := by simpa using h1
  have H1 : Hid (r.1 = 0) := h1
  clear h1
  by_cases h2 : 12 < (m : Int)
  · have hfin : Hid (seeR n T m C = (4, 0)) := by unfold Hid seeR; rw [HR.out, if_neg (by rw [H1.out]; simp), if_pos (by omega)]
    go_wp2_with fail
    exact bodyPost_ret (v := seeAgg (.slice none 0 0) (.slice none 0 0) (.slice none 0 0) (4, 0)) (by unfold seeAgg; simp [results, Tryz.results39, go_sem, p0, p1, p2, v0, v1]) rfl ⟨⟨_, _, _, by rw [hfin.out], fun h => (by rw [hfin.out] at h; simp at h), ⟨_, _, _, rfl⟩, ⟨_, _, _, rfl⟩, ⟨_, _, _, rfl⟩⟩, HF2.out.set _ _ _ _ _⟩
  have HM : Hid (m ≤ 12) := by unfold Hid; omega
  have HFE : Hid (seeR n T m C = fault m (errR n (initLen n T) (initTxt T) C)) := by unfold Hid seeR; rw [HR.out, if_neg (by rw [H1.out]; simp), if_neg (by omega)]
  have hright := right_iff.1 (show (wrongS n T).1 = 0 by rw [HR.out]; exact H1.out)
  have HRT := Hid.intro hright
  have hn8 : n ≤ 8 := hright.few
  clear hright
  go_wp2_with fail
  clear hW2 k0 k1 p0 p1 p2 p3 p4 p5 v0 v1 z0 z1 ne1 ne2 ne3 ne4
  have hRS := rs_start W2 T
  have hF3 := HF2.out.next (below1 W2 (Obj.cells #[.slice none 0 0, .slice none 0 0, .slice none 0 0] 107)) HF2.out.lt
  have hbl : w.heap.size + 1 < W2.heap.size := HF2.out.lt
  have hz3 : W2.heap.size ≤ (W2.alloc (Obj.cells #[.slice none 0 0, .slice none 0 0, .slice none 0 0] 107)).heap.size := by simp
  generalize W2.alloc (Obj.cells #[.slice none 0 0, .slice none 0 0, .slice none 0 0] 107) = W3 at *
  generalize W2.heap.size = base at *
  have HRS := Hid.intro hRS
  have HF3 := Hid.intro hF3
  clear hRS hF3 HF2
  go_loopw [30] (fun i wr => ∃ k : Nat, k ≤ n ∧ i = .int .i64 k ∧ FB2 w wr ∧ base ≤ wr.heap.size ∧ ∃ fv rows, RS wr base base k fv rows (initLen k T) (initTxt T)) (fun i _ => n - (intOf i).toNat)
  case atStart => exact ⟨0, Nat.zero_le _, rfl, HF3.out, hz3, _, _, HRS.out⟩
  case round =>
    obtain ⟨k, hk, rfl, hFr, hzr, fv, rows, hSr⟩ := hrel
    by_cases hlt : k < n
    · obtain ⟨b, o, rfl, t0, t1, hfc, hsn, hF⟩ := (HT.out.kept hFr.below).2 k hlt
      have hlt' : (k : Int) < (n : Int) := by omega
      have hk0 : (0 : Int) ≤ (k : Int) := by omega
      have hnf : (T k).nf ≤ 10 := (HRT.out.fld k hlt).few
      generalize hY : wr.alloc (Obj.cells #[.string (T k).name, .slice (T k).fa (T k).nf (T k).fcap] 96) = Y
      have hBY : Below wr.heap.size wr Y := by rw [← hY]; exact below1 _ _
      have hby : Y.heap[wr.heap.size]? = some (.cells #[.string (T k).name, .slice (T k).fa (T k).nf (T k).fcap] 96 (0, 0)) := by rw [← hY]; exact heap_alloc_new _ _
      have hF5 := hFr.next hBY hFr.lt
      have hSY := hSr.kept hBY
      have hFY := hF.kept hBY
      have hzY : base ≤ Y.heap.size := Nat.le_trans hzr hBY.size
      have HFY := Hid.intro hFY
      have HSY := Hid.intro hSY
      have HF5 := Hid.intro hF5
      have HBT := Hid.intro hby
      clear hFr hSr hBY hby hF5 hSY hFY hF
      go_wp2_with fail
      clear hY t0 t1
      generalize wr.heap.size = bt at *
      obtain ⟨i0, hi, hz0, hz1, hz2⟩ := info_parts' Tryz.info9
      have hbs : base < Y.heap.size := lt_of_block HSY.out.box
      have hbt : bt < Y.heap.size := lt_of_block HBT.out
      refine wp_region_as (by kernel_rfl) (by kernel_rfl) [34, 35, 36, 37, 38, 39, 40, 41, 42, 43, 44, 45, 46, 47] (by kernel_rfl) (by kernel_rfl) (by kernel_rfl) con10 (A10 Y.heap.size base base bt k rows T (T k).name) (G10 Y base base k fv rows T) ?_ ?_ ?_
      · exact ⟨rfl, rfl, rfl, Nat.le_refl _, fun _ _ _ _ _ => rfl, ⟨rows 0, rows 1, HSY.out.box, fun _ => rfl, fun _ => rfl, fun h => (by cases h), fun h => (by cases h)⟩, fun _ => (HSY.out.texts 0 (by omega)).at (fun _ _ => rfl), fun _ => (HSY.out.texts 1 (by omega)).at (fun _ _ => rfl), fun h => (by cases h)⟩
      · intro L s wz i o hG hL hcl hA hF hi' hl ha
        have h99 : L 99 = false := by
          cases h : L 99 with
          | false => rfl
          | true => exact absurd (hL 99 h) (by decide)
        have up11 : L 11 = true → L 5 = true := fun h => hcl 11 _ h rfl { on := 5, ground := .chain } (by simp) rfl
        have up13_1 : L 13 = true → L 1 = true := fun h => hcl 13 _ h rfl { on := 1, ground := .phase } (by simp) rfl
        have up13_5 : L 13 = true → L 5 = true := fun h => hcl 13 _ h rfl { on := 5, ground := .data } (by simp) rfl
        have up13_11 : L 13 = true → L 11 = true := fun h => hcl 13 _ h rfl { on := 11, ground := .chain } (by simp) rfl
        have up15 : L 15 = true → L 13 = true := fun h => hcl 15 _ h rfl { on := 13, ground := .chain } (by simp) rfl
        have up15_7 : L 15 = true → L 7 = true := fun h => hcl 15 _ h rfl { on := 7, ground := .phase } (by simp) rfl
        have R0 := Hid.intro (HSY.out.texts 0 (by omega))
        have R1 := Hid.intro (HSY.out.texts 1 (by omega))
        have hbtz : wz.heap[bt]? = some (.cells #[.string (T k).name, .slice (T k).fa (T k).nf (T k).fcap] 96 (0, 0)) := (hG.keep bt hbt (fun e => R0.out.box_ne e HBT.out (by decide) rfl) (fun e => R1.out.box_ne e HBT.out (by decide) rfl) (fun e => by have h1 := HSY.out.box; rw [← e, HBT.out] at h1; simp at h1)).trans HBT.out
        obtain _ | i := i
        · obtain rfl := Option.some.inj hi'
          have HB : Below wz.heap.size wz wz := Below.refl _ _
          have e1 : s 7 = .pointer (some ⟨base, 0, none⟩) := hF 7 (by decide)
          refine opStep_value (v := .pointer (some ⟨base, 0, none⟩)) (w' := wz) ?_ ⟨(hG.next HB rfl rfl rfl rfl rfl rfl hbs), rfl, fun q _ _ _ h => A10_kept q h (fun h => h.kept HB) (fun _ h => h.kept HB) (fun _ h => h.kept HB)⟩
          simp only [execOp, evalS, e1]
          go_simp
        obtain _ | i := i
        · obtain rfl := Option.some.inj hi'
          have HB : Below wz.heap.size wz wz := Below.refl _ _
          have e1 : s 34 = .pointer (some ⟨base, 0, none⟩) := hA 0 (ha { on := 0, ground := .data } (by simp) rfl) h99
          have hst : L 13 = false := by
            cases h : L 13 with
            | false => rfl
            | true =>
              have h2 : L 1 = true := up13_1 h
              have h3 : L 1 = false := hl
              rw [h2] at h3; cases h3
          obtain ⟨x0, x1, q0, q1, q2, -, -⟩ := hG.box
          have hc : wz.cell? ⟨base, 0, none⟩ = some (rows 0) := by rw [← q1 hst]; simp [World.cell?, q0]
          refine opStep_value (v := rows 0) (w' := wz) ?_ ⟨(hG.next HB rfl rfl rfl rfl rfl rfl hbs), rfl, fun q _ _ _ h => A10_kept q h (fun h => h.kept HB) (fun _ h => h.kept HB) (fun _ h => h.kept HB)⟩
          simp only [execOp, evalS, e1]
          go_simp
        obtain _ | i := i
        · obtain rfl := Option.some.inj hi'
          have HB : Below wz.heap.size wz wz := Below.refl _ _
          have e1 : s 9 = .pointer (some ⟨bt, 0, none⟩) := hF 9 (by decide)
          refine opStep_value (v := .pointer (some ⟨bt, 0, none⟩)) (w' := wz) ?_ ⟨(hG.next HB rfl rfl rfl rfl rfl rfl hbs), rfl, fun q _ _ _ h => A10_kept q h (fun h => h.kept HB) (fun _ h => h.kept HB) (fun _ h => h.kept HB)⟩
          simp only [execOp, evalS, e1]
          go_simp
        obtain _ | i := i
        · obtain rfl := Option.some.inj hi'
          have HB : Below wz.heap.size wz wz := Below.refl _ _
          have e1 : s 36 = .pointer (some ⟨bt, 0, none⟩) := hA 2 (ha { on := 2, ground := .data } (by simp) rfl) h99
          have hc : wz.cell? ⟨bt, 0, none⟩ = some (.string (T k).name) := by simp [World.cell?, hbtz]
          refine opStep_value (v := .string (T k).name) (w' := wz) ?_ ⟨(hG.next HB rfl rfl rfl rfl rfl rfl hbs), rfl, fun q _ _ _ h => A10_kept q h (fun h => h.kept HB) (fun _ h => h.kept HB) (fun _ h => h.kept HB)⟩
          simp only [execOp, evalS, e1]
          go_simp
        obtain _ | i := i
        · obtain rfl := Option.some.inj hi'
          have e1 : s 37 = .string (T k).name := hA 3 (ha { on := 3, ground := .data } (by simp) rfl) h99
          have HB := below1 wz (Obj.cells #[.string (T k).name] 9)
          refine opStep_value (v := .slice (some ⟨wz.heap.size, 0, none⟩) 1 1) (w' := wz.alloc (.cells #[.string (T k).name] 9)) ?_ ⟨(hG.next HB rfl rfl rfl rfl rfl rfl hbs), ⟨wz.heap.size, rfl, hG.size, heap_alloc_new _ _⟩, fun q _ _ _ h => A10_kept q h (fun h => h.kept HB) (fun _ h => h.kept HB) (fun _ h => h.kept HB)⟩
          simp only [execOp, List.map_toArray, List.map_cons, List.map_nil, evalS, e1]
          go_simp
        obtain _ | i := i
        · obtain rfl := Option.some.inj hi'
          have hl5 : L 5 = false := hl
          have e1 : s 35 = rows 0 := hA 1 (ha { on := 1, ground := .data } (by simp) rfl) h99
          obtain ⟨b4, e2, hb4, ho4⟩ : pOne Y.heap.size (T k).name (s 38) wz := hA 4 (ha { on := 4, ground := .data } (by simp) rfl) hl
          have hr0 := hG.old0 hl5
          have h11f : L 11 = false := by
            cases h : L 11 with
            | false => rfl
            | true => have h2 := up11 h; rw [hl5] at h2; cases h2
          have hr1 := hG.old1 h11f
          refine opStep_append2 (.tmp 35) (.tmp 38) 65 rfl base 9 i0 _ 1 16 Tryz.underlying65 hi hz0 hz1 hz2 rfl (by decide) (rows 0) k _ e1 hr0 (some ⟨b4, 0, none⟩) 1 1 [.string (T k).name] e2 rfl (blk_news ho4) (fun h => by cases h) (by intro u hu; simp at hu; subst hu; rfl) (by unfold maxLen; omega) (by omega) (Nat.le_trans hzY hG.size) ?_
          intro v' w' hown hgr hat
          have hrow : Row w' base 9 1 v' (k + 1) (textCell (initTxt T 0)) := by unfold Row; rw [textCell_snoc]; exact hown
          have hne1 : ∀ b, (rows 1).ownBlock = some b → (rows 0).ownBlock ≠ some b := HSY.out.apart 1 0 (by omega) (by omega) (by decide)
          obtain ⟨x0, x1, q0, q1, q2, q3, q4⟩ := hG.box
          refine ⟨⟨hgr.os.trans hG.os, hgr.tape.trans hG.tape, hgr.output.trans hG.output, Nat.le_trans hG.size hgr.size, fun b c1 c2 c3 c4 => (hgr.block b (Nat.lt_of_lt_of_le c1 hG.size) (fun e => c2 e.symm)).trans (hG.keep b c1 c2 c3 c4), ⟨x0, x1, (hgr.block base (lt_of_block q0) (fun e => hr0.box_ne e.symm q0 (by decide) rfl)).trans q0, q1, q2, fun h => ?_, fun h => ?_⟩, fun h => (by cases h), fun _ => hr1.grown hgr (fun b hb e => hne1 b hb e), fun _ h => ?_⟩, ⟨hrow, ?_⟩, fun q hq hLq hlv hAq => A10_kept q hAq (fun h => ?_) (fun e => absurd e hq) (fun e => ?_)⟩
          · have h2 := up13_5 h; rw [hl5] at h2; cases h2
          · have h2 := up13_5 (up15 h); rw [hl5] at h2; cases h2
          · have h2 : L 11 = true := h; rw [h11f] at h2; cases h2
          · rcases hat with h | h
            · exact .inl h
            · exact .inr ⟨_, h, hG.size⟩
          · obtain ⟨b, e, hB, ho⟩ := h
            refine ⟨b, e, hB, (hgr.block b (lt_of_block ho) (fun e' => ?_)).trans ho⟩
            have := (R0.out.lt e'.symm).2
            omega
          · subst e
            rw [h11f] at hLq; cases hLq
        obtain _ | i := i
        · obtain rfl := Option.some.inj hi'
          have HB : Below wz.heap.size wz wz := Below.refl _ _
          have e1 : s 7 = .pointer (some ⟨base, 0, none⟩) := hF 7 (by decide)
          refine opStep_value (v := .pointer (some ⟨base, 1, none⟩)) (w' := wz) ?_ ⟨(hG.next HB rfl rfl rfl rfl rfl rfl hbs), rfl, fun q _ _ _ h => A10_kept q h (fun h => h.kept HB) (fun _ h => h.kept HB) (fun _ h => h.kept HB)⟩
          simp only [execOp, evalS, e1]
          go_simp
        obtain _ | i := i
        · obtain rfl := Option.some.inj hi'
          have HB : Below wz.heap.size wz wz := Below.refl _ _
          have e1 : s 40 = .pointer (some ⟨base, 1, none⟩) := hA 6 (ha { on := 6, ground := .data } (by simp) rfl) h99
          have hst : L 15 = false := by
            cases h : L 15 with
            | false => rfl
            | true =>
              have h2 : L 7 = true := up15_7 h
              have h3 : L 7 = false := hl
              rw [h2] at h3; cases h3
          obtain ⟨x0, x1, q0, q1, q2, -, -⟩ := hG.box
          have hc : wz.cell? ⟨base, 1, none⟩ = some (rows 1) := by rw [← q2 hst]; simp [World.cell?, q0]
          refine opStep_value (v := rows 1) (w' := wz) ?_ ⟨(hG.next HB rfl rfl rfl rfl rfl rfl hbs), rfl, fun q _ _ _ h => A10_kept q h (fun h => h.kept HB) (fun _ h => h.kept HB) (fun _ h => h.kept HB)⟩
          simp only [execOp, evalS, e1]
          go_simp
        obtain _ | i := i
        · obtain rfl := Option.some.inj hi'
          have HB : Below wz.heap.size wz wz := Below.refl _ _
          have e1 : s 9 = .pointer (some ⟨bt, 0, none⟩) := hF 9 (by decide)
          refine opStep_value (v := .pointer (some ⟨bt, 0, none⟩)) (w' := wz) ?_ ⟨(hG.next HB rfl rfl rfl rfl rfl rfl hbs), rfl, fun q _ _ _ h => A10_kept q h (fun h => h.kept HB) (fun _ h => h.kept HB) (fun _ h => h.kept HB)⟩
          simp only [execOp, evalS, e1]
          go_simp
        obtain _ | i := i
        · obtain rfl := Option.some.inj hi'
          have HB : Below wz.heap.size wz wz := Below.refl _ _
          have e1 : s 42 = .pointer (some ⟨bt, 0, none⟩) := hA 8 (ha { on := 8, ground := .data } (by simp) rfl) h99
          have hc : wz.cell? ⟨bt, 0, none⟩ = some (.string (T k).name) := by simp [World.cell?, hbtz]
          refine opStep_value (v := .string (T k).name) (w' := wz) ?_ ⟨(hG.next HB rfl rfl rfl rfl rfl rfl hbs), rfl, fun q _ _ _ h => A10_kept q h (fun h => h.kept HB) (fun _ h => h.kept HB) (fun _ h => h.kept HB)⟩
          simp only [execOp, evalS, e1]
          go_simp
        obtain _ | i := i
        · obtain rfl := Option.some.inj hi'
          have e1 : s 43 = .string (T k).name := hA 9 (ha { on := 9, ground := .data } (by simp) rfl) h99
          have HB := below1 wz (Obj.cells #[.string (T k).name] 9)
          refine opStep_value (v := .slice (some ⟨wz.heap.size, 0, none⟩) 1 1) (w' := wz.alloc (.cells #[.string (T k).name] 9)) ?_ ⟨(hG.next HB rfl rfl rfl rfl rfl rfl hbs), ⟨wz.heap.size, rfl, hG.size, heap_alloc_new _ _⟩, fun q _ _ _ h => A10_kept q h (fun h => h.kept HB) (fun _ h => h.kept HB) (fun _ h => h.kept HB)⟩
          simp only [execOp, List.map_toArray, List.map_cons, List.map_nil, evalS, e1]
          go_simp
        obtain _ | i := i
        · obtain rfl := Option.some.inj hi'
          have hl11 : L 11 = false := hl
          have p5 : L 5 = true := ha { on := 5, ground := .chain } (by simp) rfl
          have e1 : s 41 = rows 1 := hA 7 (ha { on := 7, ground := .data } (by simp) rfl) h99
          obtain ⟨b4, e2, hb4, ho4⟩ : pOne Y.heap.size (T k).name (s 44) wz := hA 10 (ha { on := 10, ground := .data } (by simp) rfl) hl
          obtain ⟨hn5, hat5⟩ : pNew Y.heap.size base k (rows 0) (initTxt T 0) (s 39) wz := hA 5 p5 h99
          have hr1 := hG.old1 hl11
          refine opStep_append2 (.tmp 41) (.tmp 44) 65 rfl base 9 i0 _ 1 16 Tryz.underlying65 hi hz0 hz1 hz2 rfl (by decide) (rows 1) k _ e1 hr1 (some ⟨b4, 0, none⟩) 1 1 [.string (T k).name] e2 rfl (blk_news ho4) (fun h => by cases h) (by intro u hu; simp at hu; subst hu; rfl) (by unfold maxLen; omega) (by omega) (Nat.le_trans hzY hG.size) ?_
          intro v' w' hown hgr hat
          have hrow : Row w' base 9 1 v' (k + 1) (textCell (initTxt T 1)) := by unfold Row; rw [textCell_snoc]; exact hown
          have hne1 : ∀ b, (rows 0).ownBlock = some b → (rows 1).ownBlock ≠ some b := HSY.out.apart 0 1 (by omega) (by omega) (by decide)
          have hx39 : ∀ b, (s 39).ownBlock = some b → (rows 1).ownBlock ≠ some b := fun b hb e => by
            rcases hat5 with h | ⟨b', h, hB⟩
            · exact hne1 b (by rw [← h]; exact hb) e
            · rw [hb] at h; cases h
              have := (R1.out.lt e).2
              omega
          obtain ⟨x0, x1, q0, q1, q2, q3, q4⟩ := hG.box
          refine ⟨⟨hgr.os.trans hG.os, hgr.tape.trans hG.tape, hgr.output.trans hG.output, Nat.le_trans hG.size hgr.size, fun b c1 c2 c3 c4 => (hgr.block b (Nat.lt_of_lt_of_le c1 hG.size) (fun e => c3 e.symm)).trans (hG.keep b c1 c2 c3 c4), ⟨x0, x1, (hgr.block base (lt_of_block q0) (fun e => hr1.box_ne e.symm q0 (by decide) rfl)).trans q0, q1, q2, q3, fun h => ?_⟩, fun h => ?_, fun h => (by cases h), fun _ _ b hb hb' => ?_⟩, ⟨hrow, ?_⟩, fun q hq hLq hlv hAq => A10_kept q hAq (fun h => ?_) (fun _ h => ⟨h.1.grown hgr (fun b hb e => ?_), h.2⟩) (fun e => absurd e hq)⟩
          · have h2 := up13_11 (up15 h); rw [hl11] at h2; cases h2
          · have h2 : L 5 = false := h; rw [p5] at h2; cases h2
          · have hb1 : (s 39).ownBlock = some b := hb
            have hb2 : v'.ownBlock = some b := hb'
            rcases hat with h | h
            · exact hx39 b hb1 (by rw [← h]; exact hb2)
            · rw [hb2] at h; cases h
              have := (hn5.lt hb1).2
              omega
          · rcases hat with h | h
            · exact .inl h
            · exact .inr ⟨_, h, hG.size⟩
          · obtain ⟨b, e, hB, ho⟩ := h
            refine ⟨b, e, hB, (hgr.block b (lt_of_block ho) (fun e' => ?_)).trans ho⟩
            have := (R1.out.lt e'.symm).2
            omega
          · rcases h.2 with h' | ⟨b', h', hB⟩
            · exact hne1 b (by rw [← h']; exact hb) e
            · rw [hb] at h'; cases h'
              have := (R1.out.lt e).2
              omega
        obtain _ | i := i
        · obtain rfl := Option.some.inj hi'
          have HB : Below wz.heap.size wz wz := Below.refl _ _
          have e1 : s 7 = .pointer (some ⟨base, 0, none⟩) := hF 7 (by decide)
          refine opStep_value (v := .pointer (some ⟨base, 0, none⟩)) (w' := wz) ?_ ⟨(hG.next HB rfl rfl rfl rfl rfl rfl hbs), rfl, fun q _ _ _ h => A10_kept q h (fun h => h.kept HB) (fun _ h => h.kept HB) (fun _ h => h.kept HB)⟩
          simp only [execOp, evalS, e1]
          go_simp
        obtain _ | i := i
        · obtain rfl := Option.some.inj hi'
          have hl13 : L 13 = false := hl
          have e1 : s 46 = .pointer (some ⟨base, 0, none⟩) := hA 12 (ha { on := 12, ground := .data } (by simp) rfl) h99
          have hpn : pNew Y.heap.size base k (rows 0) (initTxt T 0) (s 39) wz := hA 5 (ha { on := 5, ground := .data } (by simp) rfl) h99
          obtain ⟨a', c', e2, -⟩ := hpn.1.slice
          obtain ⟨x0, x1, q0, q1, q2, q3, q4⟩ := hG.box
          have hc : wz.cell? ⟨base, 0, none⟩ = some x0 := by simp [World.cell?, q0]
          have hz : wz.frozen? ⟨base, 0, none⟩ = false := by simp [World.frozen?, q0]
          have hset := heap_setCell_same wz base 0 _ 107 (s 39) q0
          have hst : ∀ {B' e sz m : Nat} {u : Value} {f : Nat → Value}, e ≠ 107 → Row wz B' e sz u m f → Row (wz.setCell ⟨base, 0, none⟩ (s 39)) B' e sz u m f := fun he hr => hr.set_other (p := ⟨base, 0, none⟩) (fun e' => hr.box_ne e' q0 he rfl) _
          refine opStep_skip (w' := wz.setCell ⟨base, 0, none⟩ (s 39)) ?_ ⟨⟨hG.os, hG.tape, hG.output, by simpa using hG.size, fun b c1 c2 c3 c4 => (Below.heap_setCell _ _ _ _ c4).trans (hG.keep b c1 c2 c3 c4), ⟨s 39, x1, by rw [hset]; rfl, fun h => (by cases h), q2, fun _ => rfl, q4⟩, fun h => hst (by decide) (hG.old0 h), fun h => hst (by decide) (hG.old1 h), hG.cross⟩, trivial, fun q hq hLq hlv hAq => A10_kept q hAq (fun h => ?_) (fun _ h => ⟨hst (by decide) h.1, h.2⟩) (fun _ h => ⟨hst (by decide) h.1, h.2⟩)⟩
          · simp only [execOp, evalS, e1, e2]
            go_simp
          · obtain ⟨b, e, hB, ho⟩ := h
            exact ⟨b, e, hB, (Below.heap_setCell _ _ _ _ (show b ≠ base by omega)).trans ho⟩
        obtain _ | i := i
        · obtain rfl := Option.some.inj hi'
          have HB : Below wz.heap.size wz wz := Below.refl _ _
          have e1 : s 7 = .pointer (some ⟨base, 0, none⟩) := hF 7 (by decide)
          refine opStep_value (v := .pointer (some ⟨base, 1, none⟩)) (w' := wz) ?_ ⟨(hG.next HB rfl rfl rfl rfl rfl rfl hbs), rfl, fun q _ _ _ h => A10_kept q h (fun h => h.kept HB) (fun _ h => h.kept HB) (fun _ h => h.kept HB)⟩
          simp only [execOp, evalS, e1]
          go_simp
        obtain _ | i := i
        · obtain rfl := Option.some.inj hi'
          have hl15 : L 15 = false := hl
          have e1 : s 47 = .pointer (some ⟨base, 1, none⟩) := hA 14 (ha { on := 14, ground := .data } (by simp) rfl) h99
          have hpn : pNew Y.heap.size base k (rows 1) (initTxt T 1) (s 45) wz := hA 11 (ha { on := 11, ground := .data } (by simp) rfl) h99
          obtain ⟨a', c', e2, -⟩ := hpn.1.slice
          obtain ⟨x0, x1, q0, q1, q2, q3, q4⟩ := hG.box
          have hc : wz.cell? ⟨base, 1, none⟩ = some x1 := by simp [World.cell?, q0]
          have hz : wz.frozen? ⟨base, 1, none⟩ = false := by simp [World.frozen?, q0]
          have hset := heap_setCell_same wz base 1 _ 107 (s 45) q0
          have hst : ∀ {B' e sz m : Nat} {u : Value} {f : Nat → Value}, e ≠ 107 → Row wz B' e sz u m f → Row (wz.setCell ⟨base, 1, none⟩ (s 45)) B' e sz u m f := fun he hr => hr.set_other (p := ⟨base, 1, none⟩) (fun e' => hr.box_ne e' q0 he rfl) _
          refine opStep_skip (w' := wz.setCell ⟨base, 1, none⟩ (s 45)) ?_ ⟨⟨hG.os, hG.tape, hG.output, by simpa using hG.size, fun b c1 c2 c3 c4 => (Below.heap_setCell _ _ _ _ c4).trans (hG.keep b c1 c2 c3 c4), ⟨x0, s 45, by rw [hset]; rfl, q1, fun h => (by cases h), q3, fun _ => rfl⟩, fun h => hst (by decide) (hG.old0 h), fun h => hst (by decide) (hG.old1 h), hG.cross⟩, trivial, fun q hq hLq hlv hAq => A10_kept q hAq (fun h => ?_) (fun _ h => ⟨hst (by decide) h.1, h.2⟩) (fun _ h => ⟨hst (by decide) h.1, h.2⟩)⟩
          · simp only [execOp, evalS, e1, e2]
            go_simp
          · obtain ⟨b, e, hB, ho⟩ := h
            exact ⟨b, e, hB, (Below.heap_setCell _ _ _ _ (show b ≠ base by omega)).trans ho⟩
        · exfalso
          have hlen : i + 1 + 1 + 1 + 1 + 1 + 1 + 1 + 1 + 1 + 1 + 1 + 1 + 1 + 1 + 1 + 1 < 16 := (List.getElem?_eq_some_iff.1 hi').1
          omega
      · intro L s wz hG hL hall hA
        have h99 : L 99 = false := by
          cases h : L 99 with
          | false => rfl
          | true => exact absurd (hL 99 h) (by decide)
        obtain ⟨hn0, ht0⟩ : pNew Y.heap.size base k (rows 0) (initTxt T 0) (s 39) wz := hA 5 (hall 5 (by decide)) h99
        obtain ⟨hn1, ht1⟩ : pNew Y.heap.size base k (rows 1) (initTxt T 1) (s 45) wz := hA 11 (hall 11 (by decide)) h99
        have hRS := rs_two HSY.out hsn hG (hall 13 (by decide)) (hall 15 (by decide)) (hall 5 (by decide)) (hall 11 (by decide)) hn0 ht0 hn1 ht1
        have hF6 : FB2 w wz := HF5.out.two HSY.out hG hbl
        have hbtz : wz.heap[bt]? = some (.cells #[.string (T k).name, .slice (T k).fa (T k).nf (T k).fcap] 96 (0, 0)) := (hG.keep bt hbt (fun e => (HSY.out.texts 0 (by omega)).box_ne e HBT.out (by decide) rfl) (fun e => (HSY.out.texts 1 (by omega)).box_ne e HBT.out (by decide) rfl) (fun e => by have h1 := HSY.out.box; rw [← e, HBT.out] at h1; simp at h1)).trans HBT.out
        have hz6 : base ≤ wz.heap.size := Nat.le_trans hzY hG.size
        have HRS6 := Hid.intro hRS
        have HF6 := Hid.intro hF6
        have b1 : wz.cell? ⟨bt, 1, none⟩ = some (.slice (T k).fa (T k).nf (T k).fcap) := by simp [World.cell?, hbtz]
        have hFz := (HT.out.kept hF6.below).2 k hlt
        have HFz : Hid (FieldsAt wz (T k).fa (T k).nf (T k).F) := by obtain ⟨_, _, _, _, _, _, _, q⟩ := hFz; exact q
        simp only [putAll, Act.put, List.setIfInBounds_toArray, List.set_cons_succ, List.set_cons_zero]
        clear hA hall hL h99 hn0 ht0 hn1 ht1 hRS hF6 hG hFz hbtz HSY HF5 HBT HFY
        generalize s 34 = x34
        generalize s 35 = x35
        generalize s 36 = x36
        generalize s 37 = x37
        generalize s 38 = x38
        generalize s 40 = x40
        generalize s 41 = x41
        generalize s 42 = x42
        generalize s 43 = x43
        generalize s 44 = x44
        generalize s 46 = x46
        generalize s 47 = x47
        generalize s 39 = x39 at *
        generalize s 45 = x45 at *
        generalize (fun j => if j = 0 then x39 else if j = 1 then x45 else rows j) = rows2 at *
        go_wp2_with fail
        clear b1
        have hnf' : (T k).nf ≤ 9223372036854775807 := by omega
        go_loopw [10, 51] (fun v i w3 => ∃ j : Nat, j ≤ (T k).nf ∧ i = .int .i64 j ∧ Row w3 wz.heap.size 9 1 v j (textCell (fun q => ((T k).F q).name)) ∧ Below wz.heap.size wz w3) (fun _ i _ => (T k).nf - (intOf i).toNat)
        case atStart => exact ⟨0, Nat.zero_le _, rfl, World.ownsRow_nil _ _ _ _, Below.refl _ _⟩
        case round =>
          obtain ⟨j, hj, rfl, hrow, hw⟩ := hrel
          by_cases hjl : j < (T k).nf
          · obtain ⟨b2, o2, ha2, f0, f1, f2, -⟩ := (HFz.out.kept hw).2 j hjl
            rw [ha2]
            have hjl' : (j : Int) < ((T k).nf : Int) := by omega
            have hj0 : (0 : Int) ≤ (j : Int) := by omega
            generalize hV : wr.alloc (Obj.cells #[.string ((T k).F j).name, .int .i64 ((T k).F j).kind, .string ((T k).F j).type] 113) = V
            have hBV : Below wr.heap.size wr V := by rw [← hV]; exact below1 _ _
            have k0 : V.cell? ⟨wr.heap.size, 0, none⟩ = some (.string ((T k).F j).name) := by rw [← hV, World.cell?_alloc_at _ _ _ _ rfl]; rfl
            have HO : Hid (Row (V.alloc (Obj.cells #[.string ((T k).F j).name] 9)) wz.heap.size 9 1 _ j (textCell (fun q => ((T k).F q).name))) := (hrow.kept hBV).kept (below1 _ _)
            have HBV : Hid (Below wz.heap.size wz V) := hw.trans (hBV.mono hw.size)
            have HL : Hid (∀ k', Value.ownBlock _ = some k' → wz.heap.size ≤ k') := fun k' hk' => (hrow.lt hk').1
            have hzv : wz.heap.size ≤ V.heap.size := HBV.out.size
            clear hrow hw hBV
            go_wp2_with (at_builtin; refine wpList_append_any _ rfl _ _ 65 rfl wz.heap.size 9 i0 _ 1 16 Tryz.underlying65 hi hz0 hz1 hz2 rfl (by decide) _ j _ rfl HO.out (some ⟨V.heap.size, 0, none⟩) 1 1 [.string ((T k).F j).name] rfl rfl (alloc_news V #[.string ((T k).F j).name] _) (fun h => by cases h) (by intro u hu; simp at hu; subst hu; rfl) (by unfold maxLen; omega) (by omega) (by simp; omega) ?_)
            intro v2 w6 hown2 hg2 _
            have HRw : Hid (Row w6 wz.heap.size 9 1 v2 (j + 1) (textCell (fun q => ((T k).F q).name))) := by unfold Hid Row; rw [textCell_snoc, Nat.mul_one]; exact hown2
            have HB6 : Hid (Below wz.heap.size wz w6) := (HBV.out.trans ((below1 V _).mono hzv)).grown hg2 (by simp; omega) (fun k' hk' => HL.out k' hk')
            clear hown2 hg2 HO HL HBV hV k0 f0 f1 f2 ha2
            go_wp2_with fail
            go_roundw
            case rel => exact ⟨j + 1, by omega, by go_num, HRw.out, HB6.out⟩
            case measure => simp [intOf]; omega
          · have hjn : j = (T k).nf := by omega
            rw [hjn] at hrow
            obtain ⟨av, cv, hv, -⟩ := hrow.slice
            subst hv
            obtain ⟨i1, ji, jz0, jz1, jz2⟩ := info_parts' Tryz.info65
            have hRw := HRS6.out.kept hw
            obtain ⟨af, cf, hfv, -⟩ := hRw.frow.slice
            have c2 : wr.cell? ⟨base, 2, none⟩ = some fv := by simp [World.cell?, hRw.box]
            have z2 : wr.frozen? ⟨base, 2, none⟩ = false := by simp [World.frozen?, hRw.box]
            subst hfv
            have hgoodn : ∀ j, j < (T k).nf → Small ((T k).F j).name := fun j hj => by obtain ⟨_, _, _, _, _, _, q, _⟩ := HFz.out.2 j hj; exact q
            have HGN := Hid.intro hgoodn
            have HVR : Hid (Row wr wz.heap.size 9 1 (.slice av (T k).nf cv) (T k).nf (textCell (fun q => ((T k).F q).name))) := hrow
            have HO : Hid (Row (wr.alloc (Obj.cells #[.slice av (T k).nf cv] 65)) base 65 1 (.slice af k cf) k (fun i => rows2 (2 + i))) := hRw.frow.kept (below1 _ _)
            have HWr := Hid.intro hw
            have hzr2 : base ≤ wr.heap.size := Nat.le_trans hz6 hw.size
            have HLf : Hid (∀ b, (Value.slice af k cf).ownBlock = some b → base ≤ b) := fun b hb => (hRw.frow.lt hb).1
            have hbox : wr.heap[base]? = some (.cells #[rows2 0, rows2 1, .slice af k cf] 107 (0, 0)) := hRw.box
            have HBX := Hid.intro hbox
            clear hrow hw hRw hgoodn hjn hbox
            go_wp2_with (at_builtin; refine wpList_append_any _ rfl _ _ 105 rfl base 65 i1 _ 1 24 Tryz.underlying105 ji jz0 jz1 jz2 rfl (by decide) _ k _ rfl HO.out (some ⟨wr.heap.size, 0, none⟩) 1 1 [.slice av (T k).nf cv] rfl rfl (alloc_news wr #[.slice av (T k).nf cv] _) (fun h => by cases h) (by intro u hu; simp at hu; subst hu; rfl) (by unfold maxLen; omega) (by omega) (by simp; omega) ?_)
            intro v2 w6 hown2 hg2 _
            have hbox6 : w6.heap[base]? = some (.cells #[rows2 0, rows2 1, .slice af k cf] 107 (0, 0)) := (hg2.block base (by have := lt_of_block HBX.out; simp; omega) (fun e => HO.out.box_ne e.symm ((below1 wr _).block base (lt_of_block HBX.out) |>.trans HBX.out) (by decide) rfl)).trans ((below1 wr _).block base (lt_of_block HBX.out) |>.trans HBX.out)
            have hrs := rs_more HRS6.out (by omega) hz6 HWr.out HVR.out (by unfold maxLen; omega) HGN.out hg2 (by simpa using hown2)
            have HRS7 := Hid.intro hrs
            have d2 : w6.cell? ⟨base, 2, none⟩ = some (.slice af k cf) := by simp [World.cell?, hbox6]
            have y2 : w6.frozen? ⟨base, 2, none⟩ = false := by simp [World.frozen?, hbox6]
            have HB6 : Hid (Below base wz w6) := ((HWr.out.mono hz6).trans ((below1 wr _).mono hzr2)).grown hg2 (by simp; omega) (fun b hb => HLf.out b hb)
            obtain ⟨a7, c7, hv7, -⟩ := (show Row w6 base 65 1 v2 (k + 1) (fun i => if i = k then .slice av (T k).nf cv else rows2 (2 + i)) from by
              unfold Row
              rw [show (k + 1) * 1 = k * 1 + 1 by omega, List.range_succ, List.map_append]
              have e : (List.range (k * 1)).map (fun i => if i = k then Value.slice av (T k).nf cv else rows2 (2 + i)) = (List.range (k * 1)).map (fun i => rows2 (2 + i)) := range_map_congr fun j hj => by rw [if_neg (by omega)]
              rw [e]; simpa using hown2).slice
            subst hv7
            clear hrs hown2 hg2 HO HLf c2 z2 hbox6
            go_wp2_with fail
            go_roundw
            case rel => exact ⟨k + 1, by omega, by go_num, (HF6.out.next HB6.out hbl).next ((Below.refl base _).setCell (Nat.le_refl _) _) hbl, by simpa using Nat.le_trans hz6 HB6.out.size, _, _, HRS7.out⟩
            case measure => simp [intOf]; omega
    · have hkn : k = n := by omega
      rw [hkn] at hSr
      have HSn := Hid.intro hSr
      have HFn := Hid.intro hFr
      clear hkn hSr hFr
      go_wp2_with fail
      go_loopw [70] (fun i w3 => ∃ q : Nat, q ≤ m ∧ i = .int .i64 q ∧ Hid (∀ j, j < q → errR n (initLen n T) (initTxt T) C j = 0) ∧ FB2 w w3 ∧ base ≤ w3.heap.size ∧ RS w3 base base n fv rows (initLen n T) (runR n (initLen n T) (initTxt T) C q)) (fun i _ => m - (intOf i).toNat)
      case atStart => exact ⟨0, Nat.zero_le _, rfl, (fun j hj => absurd hj (Nat.not_lt_zero _)), HFn.out, hzr, HSn.out⟩
      case round =>
        obtain ⟨q, hq, rfl, hb, hF, hz, hS⟩ := hrel
        by_cases hql : q < m
        · obtain ⟨b, o, rfl, q0, q1, q2, q3, -, -, hsm⟩ := (HC.out.kept hF.below).2 q hql
          have hql' : (q : Int) < (m : Int) := by omega
          have hq0 : (0 : Int) ≤ (q : Int) := by omega
          generalize hW : wr.alloc (Obj.cells #[.int .i64 (C q).kind, .string (C q).type, .string (C q).field, .string (C q).to] 160) = W4
          have hB : Below wr.heap.size wr W4 := by rw [← hW]; exact below1 _ _
          have m0 : W4.cell? ⟨wr.heap.size, 0, none⟩ = some (.int .i64 (C q).kind) := by rw [← hW, World.cell?_alloc_at _ _ _ _ rfl]; rfl
          have m1 : W4.cell? ⟨wr.heap.size, 1, none⟩ = some (.string (C q).type) := by rw [← hW, World.cell?_alloc_at _ _ _ _ rfl]; rfl
          have m2 : W4.cell? ⟨wr.heap.size, 2, none⟩ = some (.string (C q).field) := by rw [← hW, World.cell?_alloc_at _ _ _ _ rfl]; rfl
          have m3 : W4.cell? ⟨wr.heap.size, 3, none⟩ = some (.string (C q).to) := by rw [← hW, World.cell?_alloc_at _ _ _ _ rfl]; rfl
          have hF4 := hF.next hB hF.lt
          have hcl := do_any base base n fv rows (initLen n T) (runR n (initLen n T) (initTxt T) C q) (C q) W4 (hS.kept hB) rfl hsm (Nat.le_trans hz hB.size)
          unfold changeV at hcl
          have HF4 := Hid.intro hF4
          have hz4 : base ≤ W4.heap.size := Nat.le_trans hz hB.size
          clear hF4 hF hS hB
          go_wp2_with fail
          clear hW
          refine hcl.mono ?_
          clear hcl
          rintro e w5 ⟨rfl, hS5, hb5⟩
          have hF5 := HF4.out.next hb5 hbl
          have hz5 : base ≤ w5.heap.size := Nat.le_trans hz4 hb5.size
          have HS5 : Hid (RS w5 base base n fv rows (initLen n T) (runR n (initLen n T) (initTxt T) C (q + 1))) := hS5
          obtain ⟨p0, p1, p2, p3, p4, p5⟩ := hF5.cells
          obtain ⟨v0, v1, z0, z1⟩ := box_cells hF5.hrf
          have HF5 := Hid.intro hF5
          clear hS5 hb5 hF5 HF4 hz4 m0 m1 m2 m3 q0 q1 q2 q3
          have HEk : Hid ((doR n (initLen n T) (runR n (initLen n T) (initTxt T) C q) (C q)).1 = errR n (initLen n T) (initTxt T) C q) := rfl
          generalize (doR n (initLen n T) (runR n (initLen n T) (initTxt T) C q) (C q)).1 = ek at *
          by_cases h5 : ek = 0
          · have h5b : (ek != 0) = false := by simpa using h5
            have hb2 : Hid (∀ j, j < q + 1 → errR n (initLen n T) (initTxt T) C j = 0) := fun j hj => by
              rcases Nat.lt_succ_iff_lt_or_eq.1 hj with h | h
              · exact hb j h
              · rw [h, ← HEk.out]; exact h5
            clear h5
            go_wp2_with fail
            go_roundw
            case rel => exact ⟨q + 1, by omega, by go_num, hb2, HF5.out, hz5, HS5.out⟩
            case measure => simp [intOf]; omega
          · have h5b : (ek != 0) = true := by simpa using h5
            have hfin : Hid (seeR n T m C = (ek, (q : Int))) := by
              unfold Hid
              rw [HFE.out, fault_hit (g := errR n (initLen n T) (initTxt T) C) hql (by rw [← HEk.out]; exact h5) hb.out, ← HEk.out]
            have H5 : Hid (¬ ek = 0) := h5
            clear h5
            go_wp2_with fail
            exact bodyPost_ret (v := seeAgg (.slice none 0 0) (.slice none 0 0) (.slice none 0 0) (ek, (q : Int))) (by unfold seeAgg; simp [results, Tryz.results39, go_sem, p0, p1, p2, v0, v1]) rfl ⟨⟨_, _, _, by rw [hfin.out], fun h => absurd (by rw [hfin.out] at h; exact h) H5.out, ⟨_, _, _, rfl⟩, ⟨_, _, _, rfl⟩, ⟨_, _, _, rfl⟩⟩, HF5.out.set _ _ _ _ _⟩
        · have hqm : q = m := by omega
          have hfin : Hid (seeR n T m C = (0, 0)) := by unfold Hid; rw [HFE.out]; exact fault_none fun j hj => hb j (by omega)
          rw [hqm] at hS
          obtain ⟨p0, p1, p2, p3, p4, p5⟩ := hF.cells
          obtain ⟨v0, v1, z0, z1⟩ := box_cells hF.hrf
          obtain ⟨a0, c0, e0, -⟩ := (hS.texts 0 (by omega)).slice
          obtain ⟨a1, c1, e1, -⟩ := (hS.texts 1 (by omega)).slice
          obtain ⟨af, cf, ef, -⟩ := hS.frow.slice
          subst ef
          have d0 : wr.cell? ⟨base, 0, none⟩ = some (.slice a0 (initLen n T 0) c0) := by simp [World.cell?, hS.box, e0]
          have d1 : wr.cell? ⟨base, 1, none⟩ = some (.slice a1 (initLen n T 1) c1) := by simp [World.cell?, hS.box, e1]
          have d2 : wr.cell? ⟨base, 2, none⟩ = some (.slice af n cf) := by simp [World.cell?, hS.box]
          have HS5 := Hid.intro hS
          have HF5 := Hid.intro hF
          have HE0 := Hid.intro e0
          have HE1 := Hid.intro e1
          have ne1 : ¬ base = w.heap.size := by omega
          have ne2 : ¬ w.heap.size = base := by omega
          clear hqm hS hF e0 e1
          go_wp2_with fail
          exact bodyPost_ret (v := seeAgg (.slice a0 (initLen n T 0) c0) (.slice a1 (initLen n T 1) c1) (.slice af n cf) (0, 0)) (by unfold seeAgg; simp [results, Tryz.results39, go_sem, p0, p1, p2, v0, v1]) rfl ⟨⟨_, _, _, by rw [hfin.out], fun _ => ⟨base, base, rows, HE0.out, HE1.out, ((((HS5.out.low (p := ⟨w.heap.size, 0, none⟩) (by show w.heap.size < base; omega) _).low (p := ⟨w.heap.size, 1, none⟩) (by show w.heap.size < base; omega) _).low (p := ⟨w.heap.size, 2, none⟩) (by show w.heap.size < base; omega) _).low (p := ⟨w.heap.size + 1, 0, none⟩) hbl _).low (p := ⟨w.heap.size + 1, 1, none⟩) hbl _⟩, ⟨_, _, _, rfl⟩, ⟨_, _, _, rfl⟩, ⟨_, _, _, rfl⟩⟩, HF5.out.set _ _ _ _ _⟩
end Go.Proofs.YtjjggefmmeminabGreat
