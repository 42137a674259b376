import Derived.Test.YtjjggefmmeminaaChParts
import Derived.Test.YtjjggefmmeminaaJBase
/-
  Rows of changes that the law itself makes; what an operation of its two great statements leaves.
-/
namespace Go.Proofs.Ytjjggefmmeminaa
open Go.RowKit Go.Sort

theorem Try.info61 : (Try.prog.info? 61).map (fun i => (i.zero, i.size, i.bytes)) = some (some (.agg #[.int .i64 0, .string ⟨#[]⟩, .string ⟨#[]⟩, .string ⟨#[]⟩]), 4, 56) := by kernel_rfl

def changeCells (c : PChange) : List Value := [.int .i64 c.kind, .string c.type, .string c.field, .string c.to]
def changeCell (C : Nat → PChange) (j : Nat) : Value := if j % 4 = 0 then .int .i64 (C (j / 4)).kind else if j % 4 = 1 then .string (C (j / 4)).type else if j % 4 = 2 then .string (C (j / 4)).field else .string (C (j / 4)).to
theorem changeCell_succ (C : Nat → PChange) (k : Nat) : (List.range ((k + 1) * 4)).map (changeCell C) = (List.range (k * 4)).map (changeCell C) ++ changeCells (C k) := by
  rw [show (k + 1) * 4 = k * 4 + 1 + 1 + 1 + 1 by omega, List.range_succ, List.range_succ, List.range_succ, List.range_succ]
  simp only [List.map_append, List.map_cons, List.map_nil, List.append_assoc]
  have e : ∀ r, r < 4 → (k * 4 + r) / 4 = k ∧ (k * 4 + r) % 4 = r := fun r hr => by omega
  have e0 : changeCell C (k * 4) = .int .i64 (C k).kind := by unfold changeCell; rw [if_pos (by omega), show k * 4 / 4 = k by omega]
  have e1 : changeCell C (k * 4 + 1) = .string (C k).type := by unfold changeCell; rw [if_neg (by omega), if_pos (by omega), (e 1 (by decide)).1]
  have e2 : changeCell C (k * 4 + 1 + 1) = .string (C k).field := by unfold changeCell; rw [if_neg (by omega), if_neg (by omega), if_pos (by omega), show (k * 4 + 1 + 1) / 4 = k by omega]
  have e3 : changeCell C (k * 4 + 1 + 1 + 1) = .string (C k).to := by unfold changeCell; rw [if_neg (by omega), if_neg (by omega), if_neg (by omega), show (k * 4 + 1 + 1 + 1) / 4 = k by omega]
  rw [e0, e1, e2, e3]; rfl
theorem changeCell_one (C : Nat → PChange) (n : Nat) : ∀ u ∈ (List.range n).map (changeCell C), u.oneCell' = true := by
  intro u hu
  obtain ⟨j, -, rfl⟩ := List.mem_map.1 hu
  unfold changeCell
  split
  · rfl
  · split
    · rfl
    · split <;> rfl
theorem changeCells_one (c : PChange) : ∀ u ∈ changeCells c, u.oneCell' = true := by
  intro u hu
  simp [changeCells] at hu
  rcases hu with rfl | rfl | rfl | rfl <;> rfl
theorem ChangesAt.news {w : World} {a : Option Addr} {n : Nat} {C : Nat → PChange} (h : ChangesAt w a n C) : ∀ ad, a = some ad → ∀ j u, ((List.range (n * 4)).map (changeCell C))[j]? = some u → w.cell? (ad.add j) = some u := by
  intro ad ha j u hu
  by_cases hj : j < n * 4
  · rw [List.getElem?_map, List.getElem?_range hj] at hu
    injection hu with hu
    subst hu
    obtain ⟨b, o, ha', h0, h1, h2, h3, -⟩ := h.2 (j / 4) (by omega)
    rw [ha] at ha'
    cases ha'
    rw [WideShapes.add_plain]
    unfold changeCell
    have e : j % 4 = 0 ∨ j % 4 = 1 ∨ j % 4 = 2 ∨ j % 4 = 3 := by omega
    rcases e with e | e | e | e
    · rw [if_pos e, show o + j = o + j / 4 * 4 by omega]; exact h0
    · rw [if_neg (by omega), if_pos e, show o + j = o + j / 4 * 4 + 1 by omega]; exact h1
    · rw [if_neg (by omega), if_neg (by omega), if_pos e, show o + j = o + j / 4 * 4 + 2 by omega]; exact h2
    · rw [if_neg (by omega), if_neg (by omega), if_neg (by omega), show o + j = o + j / 4 * 4 + 3 by omega]; exact h3
  · rw [List.getElem?_eq_none (by simp; omega)] at hu
    cases hu
def SmallC (c : PChange) : Prop := Small c.type ∧ Small c.field ∧ Small c.to
theorem Row.changesAt {w : World} {base e n : Nat} {v : Value} {C : Nat → PChange} (h : Row w base e 4 v n (changeCell C)) (hn : n ≤ maxLen) (hg : ∀ j, j < n → SmallC (C j)) : ∃ a cap, v = .slice a n cap ∧ ChangesAt w a n C := by
  rcases h.shape with ⟨rfl, rfl⟩ | ⟨g, cap, rfl, -, hc, -⟩
  · exact ⟨none, 0, rfl, Nat.zero_le _, fun i hi => absurd hi (Nat.not_lt_zero _)⟩
  · refine ⟨_, cap, rfl, hn, fun i hi => ⟨g, 0, rfl, ?_, ?_, ?_, ?_, hg i hi⟩⟩
    · rw [h.cell (by omega), Nat.zero_add]; unfold changeCell; rw [if_pos (by omega), show i * 4 / 4 = i by omega]
    · rw [h.cell (by omega), Nat.zero_add]; unfold changeCell; rw [if_neg (by omega), if_pos (by omega), show (i * 4 + 1) / 4 = i by omega]
    · rw [h.cell (by omega), Nat.zero_add]; unfold changeCell; rw [if_neg (by omega), if_neg (by omega), if_pos (by omega), show (i * 4 + 2) / 4 = i by omega]
    · rw [h.cell (by omega), Nat.zero_add]; unfold changeCell; rw [if_neg (by omega), if_neg (by omega), if_neg (by omega), show (i * 4 + 3) / 4 = i by omega]

/-- The changes, and two more. -/
def two (C : Nat → PChange) (m : Nat) (d0 d1 : PChange) : Nat → PChange := fun i => if i < m then C i else if i = m then d0 else d1
theorem two_lt {C : Nat → PChange} {m : Nat} {d0 d1 : PChange} {i : Nat} (h : i < m) : two C m d0 d1 i = C i := by unfold two; rw [if_pos h]
theorem two_0 {C : Nat → PChange} {m : Nat} {d0 d1 : PChange} : two C m d0 d1 m = d0 := by unfold two; rw [if_neg (by omega), if_pos rfl]
theorem two_1 {C : Nat → PChange} {m : Nat} {d0 d1 : PChange} : two C m d0 d1 (m + 1) = d1 := by unfold two; rw [if_neg (by omega), if_neg (by omega)]
theorem two_cells {C : Nat → PChange} {m : Nat} {d0 d1 : PChange} : (List.range (m * 4)).map (changeCell (two C m d0 d1)) = (List.range (m * 4)).map (changeCell C) := range_map_congr fun j hj => by unfold changeCell; rw [two_lt (show j / 4 < m by omega)]

/-- The two changes are one another's way back. -/
def BackPair (d0 d1 : PChange) : Prop := (d0.kind = 1 ∧ d1.kind = 1 ∧ d1.type = d0.to ∧ d1.to = d0.type) ∨ (d0.kind = 2 ∧ d1.kind = 2 ∧ d1.type = d0.type ∧ d1.field = d0.to ∧ d1.to = d0.field)
theorem back_ok {n m : Nat} {T : Nat → LType} {C : Nat → PChange} {d0 d1 : PChange} (hm : m + 2 ≤ 12) (h : (seeF n T m C).1 = 0) (h1 : (seeF n T (m + 1) (two C m d0 d1)).1 = 0) (hp : BackPair d0 d1) :
    (seeF n T (m + 2) (two C m d0 d1)).1 = 0 ∧ SameT n (runS n (initS T) C m) (runS n (initS T) (two C m d0 d1) (m + 2)) := by
  have hR := seeF_right h
  have hw : (wrongS n T).1 = 0 := right_iff.2 hR
  rw [seeF_run hw (by omega), fault_zero] at h1
  have e1 : runS n (initS T) (two C m d0 d1) m = runS n (initS T) C m := run_congr fun i hi => two_lt hi
  have hSm : RightS n (runS n (initS T) C m) := right_run hR m
  have ok0 : (appS n (runS n (initS T) C m) d0).1 = 0 := by
    have := h1 m (by omega)
    unfold errS at this
    rw [e1, two_0] at this; exact this
  have hb : (appS n (appS n (runS n (initS T) C m) d0).2 d1).1 = 0 ∧ SameT n (runS n (initS T) C m) (appS n (appS n (runS n (initS T) C m) d0).2 d1).2 := by
    rcases hp with ⟨a, b, c, d⟩ | ⟨a, b, c, d, e⟩
    · exact back_type hSm a b c d ok0
    · exact back_field hSm a b c d e ok0
  have e2 : runS n (initS T) (two C m d0 d1) (m + 1) = (appS n (runS n (initS T) C m) d0).2 := by
    show (appS n (runS n (initS T) (two C m d0 d1) m) (two C m d0 d1 m)).2 = _
    rw [e1, two_0]
  refine ⟨?_, ?_⟩
  · rw [seeF_run hw (by omega), fault_zero]
    intro j hj
    by_cases hj1 : j < m + 1
    · exact h1 j hj1
    · have : j = m + 1 := by omega
      subst this
      unfold errS
      rw [e2, two_1]; exact hb.1
  · show SameT n _ (appS n (runS n (initS T) (two C m d0 d1) (m + 1)) (two C m d0 d1 (m + 1))).2
    rw [e2, two_1]; exact hb.2

/-! What the operations leave -/
def pRow0 (B : Nat) (x : Value) (w : World) : Prop := ∃ g, x = .slice (some ⟨g, 0, none⟩) 0 0 ∧ B ≤ g ∧ w.heap[g]? = some (.cells #[] 61 (0, 0))
def pRow (B m : Nat) (C : Nat → PChange) (x : Value) (w : World) : Prop := Row w B 61 4 x m (changeCell C)
def pEl (k : Nat) (cs : Array Value) (x : Value) (w : World) : Prop := ∃ b, x = .slice (some ⟨b, 0, none⟩) k k ∧ w.heap[b]? = some (.cells cs 61 (0, 0))
def pChs (M : Nat) (C : Nat → PChange) (x : Value) (w : World) : Prop := ∃ a c, x = .slice a M c ∧ ChangesAt w a M C
def OkV (n : Nat) (h : Int × Int) (S : Nat → PSeen) (v : Value) (w : World) : Prop := h.1 = 0 → ∃ b fv ov, Seens w b v n fv ov S
def faultA (h : Int × Int) : Value := .agg #[.int .i64 h.1, .int .i64 h.2]
def pTup (n : Nat) (h : Int × Int) (S : Nat → PSeen) (x : Value) (w : World) : Prop := ∃ v, x = .tuple #[v, faultA h] ∧ OkV n h S v w
def pBox (B : Nat) (st : Bool) (h : Int × Int) (x : Value) (w : World) : Prop := ∃ y, x = .pointer (some ⟨y, 0, none⟩) ∧ B ≤ y ∧ w.heap[y]? = some (.cells (if st then #[.int .i64 h.1, .int .i64 h.2] else #[.int .i64 0, .int .i64 0]) 30 (0, 0))

theorem pRow0.kept {B : Nat} {x : Value} {w w' : World} (h : pRow0 B x w) (hb : Below w.heap.size w w') : pRow0 B x w' := let ⟨g, e, hg, ho⟩ := h; ⟨g, e, hg, blk_kept hb ho⟩
theorem pEl.kept {k : Nat} {cs : Array Value} {x : Value} {w w' : World} (h : pEl k cs x w) (hb : Below w.heap.size w w') : pEl k cs x w' := let ⟨g, e, ho⟩ := h; ⟨g, e, blk_kept hb ho⟩
theorem pChs.kept {M : Nat} {C : Nat → PChange} {x : Value} {w w' : World} (h : pChs M C x w) (hb : Below w.heap.size w w') : pChs M C x w' := let ⟨a, c, e, ho⟩ := h; ⟨a, c, e, ho.kept hb⟩
theorem OkV.kept {n : Nat} {h : Int × Int} {S : Nat → PSeen} {v : Value} {w w' : World} (ho : OkV n h S v w) (hb : Below w.heap.size w w') : OkV n h S v w' := fun h0 => let ⟨b, fv, ov, hS⟩ := ho h0; ⟨b, fv, ov, hS.kept hb⟩
theorem pTup.kept {n : Nat} {h : Int × Int} {S : Nat → PSeen} {x : Value} {w w' : World} (ho : pTup n h S x w) (hb : Below w.heap.size w w') : pTup n h S x w' := let ⟨v, e, hv⟩ := ho; ⟨v, e, hv.kept hb⟩
theorem pBox.kept {B : Nat} {st : Bool} {h : Int × Int} {x : Value} {w w' : World} (ho : pBox B st h x w) (hb : Below w.heap.size w w') : pBox B st h x w' := let ⟨y, e, hy, hv⟩ := ho; ⟨y, e, hy, blk_kept hb hv⟩
theorem pEl.grown {k g : Nat} {cs cs' : Array Value} {x : Value} {w w' : World} (h : pEl k cs x w) (hg : w.grownBy w' (some g)) (ho : w.heap[g]? = some (.cells cs' 61 (0, 0))) (hne : cs ≠ cs') : pEl k cs x w' := by
  obtain ⟨b, e, hb⟩ := h
  exact ⟨b, e, (hg.block b (lt_of_block hb) (fun e' => by cases e'; rw [hb] at ho; simp at ho; exact hne ho)).trans hb⟩
theorem pBox.grown {B : Nat} {st : Bool} {h : Int × Int} {x v : Value} {w w' : World} {m : Nat} {f : Nat → Value} (ho : pBox B st h x w) (hr : Row w B 61 4 v m f) (hg : w.grownBy w' v.ownBlock) : pBox B st h x w' := by
  obtain ⟨y, e, hy, hb⟩ := ho
  exact ⟨y, e, hy, (hg.block y (lt_of_block hb) (fun e' => hr.box_ne e'.symm hb (by decide) rfl)).trans hb⟩
theorem own_empty {w : World} {B g : Nat} (hb : B ≤ g) (h : w.heap[g]? = some (.cells #[] 61 (0, 0))) : Row w B 61 4 (.slice (some ⟨g, 0, none⟩) 0 0) 0 (fun _ => undef) :=
  ⟨by simp, .inr ⟨g, 0, #[], rfl, hb, h, Nat.le_refl _, Nat.zero_le _, rfl, by simp⟩⟩
theorem pBox.store {B : Nat} {h : Int × Int} {y : Nat} {w : World} (hy : B ≤ y) (hb : w.heap[y]? = some (.cells #[.int .i64 0, .int .i64 0] 30 (0, 0))) : pBox B true h (.pointer (some ⟨y, 0, none⟩)) ((w.setCell ⟨y, 0, none⟩ (.int .i64 h.1)).setCell ⟨y, 1, none⟩ (.int .i64 h.2)) := ⟨y, rfl, hy, (boxed_set (u := h.1) (v := h.2) hb).blk⟩
theorem OkV.store {n : Nat} {h : Int × Int} {S : Nat → PSeen} {v : Value} {y : Nat} {u u' : Int} {w : World} (ho : OkV n h S v w) (hb : w.heap[y]? = some (.cells #[.int .i64 0, .int .i64 0] 30 (0, 0))) : OkV n h S v ((w.setCell ⟨y, 0, none⟩ (.int .i64 u)).setCell ⟨y, 1, none⟩ (.int .i64 u')) := fun h0 => by
  obtain ⟨b, fv, ov, hS⟩ := ho h0
  have hB := boxed_set (u := u) (v := u') hb
  exact ⟨b, fv, ov, hS.boxed hB.keep hB.old⟩
end Go.Proofs.Ytjjggefmmeminaa
