/-
  The contract of change.hide: a field is not seen any more.
-/
import Derived.Test.YtjjggefmmeminabChDel
namespace Go.Proofs.Ytjjggefmmeminab
open Go.RowKit Go.Sort

theorem fieldCell_one (F : Nat → LField) (q : Nat) : (fieldCell F q).oneCell' = true := by
  unfold fieldCell
  split
  · rfl
  · split <;> rfl
theorem textCell_one (O : Nat → ByteArray) (q : Nat) : (textCell O q).oneCell' = true := rfl

/-- What the two deletions and the two stores leave. -/
theorem hide_set {w w1 w3 : World} {base n g cap t f fb fc ob oc : Nat} {fv ov : Nat → Value} {S : Nat → PSeen} (h : Seens w base (.slice (some ⟨g, 0, none⟩) n cap) n fv ov S) (ht : t < n) (hf : f < (S t).nf)
    (hfv : fv t = .slice (some ⟨fb, 0, none⟩) (S t).nf fc) (hov : ov t = .slice (some ⟨ob, 0, none⟩) (S t).nf oc)
    (h1 : Row w1 base 138 3 (.slice (some ⟨fb, 0, none⟩) ((S t).nf - 1) fc) ((S t).nf - 1) (fun q => fieldCell (S t).F (if q < f * 3 then q else q + 3))) (g1 : w.grownBy w1 (some fb))
    (h3 : Row w3 base 9 1 (.slice (some ⟨ob, 0, none⟩) ((S t).nf - 1) oc) ((S t).nf - 1) (fun q => textCell (S t).O (if q < f * 1 then q else q + 1))) (g3 : (w1.setCell ⟨g, t * 4 + 1, none⟩ (.slice (some ⟨fb, 0, none⟩) ((S t).nf - 1) fc)).grownBy w3 (some ob)) :
    Seens (w3.setCell ⟨g, t * 4 + 3, none⟩ (.slice (some ⟨ob, 0, none⟩) ((S t).nf - 1) oc)) base (.slice (some ⟨g, 0, none⟩) n cap) n (fun i => if i = t then .slice (some ⟨fb, 0, none⟩) ((S t).nf - 1) fc else fv i) (fun i => if i = t then .slice (some ⟨ob, 0, none⟩) ((S t).nf - 1) oc else ov i) (hideF S t f) := by
  have hbf : (fv t).ownBlock = some fb := by rw [hfv]; rfl
  have hbo : (ov t).ownBlock = some ob := by rw [hov]; rfl
  have rf := h.fields t ht
  have ro := h.owns t ht
  have ngf : (Value.slice (some ⟨g, 0, none⟩) n cap).ownBlock ≠ some fb := rf.ne h.row (by decide) hbf
  have ngo : (Value.slice (some ⟨g, 0, none⟩) n cap).ownBlock ≠ some ob := ro.ne h.row (by decide) hbo
  have nfo : fb ≠ ob := fun e => rf.ne ro (by decide) hbf (by rw [hbo, e])
  have ngf' : g ≠ fb := fun e => ngf (by rw [e]; rfl)
  have ngo' : g ≠ ob := fun e => ngo (by rw [e]; rfl)
  have lf := (rf.lt hbf).2
  have lo := (ro.lt hbo).2
  have lg : g < w.heap.size := (h.row.lt (k := g) rfl).2
  -- blocks that stand
  have keep : ∀ k, k < w.heap.size → k ≠ fb → k ≠ ob → k ≠ g → (w3.setCell ⟨g, t * 4 + 3, none⟩ (.slice (some ⟨ob, 0, none⟩) ((S t).nf - 1) oc)).heap[k]? = w.heap[k]? := fun k hk n1 n2 n3 => by
    rw [Below.heap_setCell _ _ _ _ n3, g3.block k (by simpa using Nat.lt_of_lt_of_le hk g1.size) (by simpa using n2), Below.heap_setCell _ _ _ _ n3, g1.block k hk (by simpa using n1)]
  have r1 : Row w1 base 154 4 (.slice (some ⟨g, 0, none⟩) n cap) n (seenCell S fv ov) := h.row.grown g1 (fun k hk e => ngf (by rw [hk]; exact e.symm ▸ rfl))
  have r2 := r1.set (t * 4 + 1) (.slice (some ⟨fb, 0, none⟩) ((S t).nf - 1) fc)
  have r3 := (r2.grown g3 (fun k hk e => ngo (by rw [hk]; exact e.symm ▸ rfl))).set (t * 4 + 3) (.slice (some ⟨ob, 0, none⟩) ((S t).nf - 1) oc)
  have hnf : ∀ i, i ≠ t → hideF S t f i = S i := fun i hi => by unfold hideF; rw [if_neg hi]
  have htt : hideF S t f t = { S t with nf := (S t).nf - 1, F := fun j => (S t).F (skip f j), O := fun j => (S t).O (skip f j) } := by unfold hideF; rw [if_pos rfl]
  refine ⟨h.nmax, r3.congr ?_, fun i hi => ?_, fun i hi => ?_, fun i j hi hj hij k hk => ?_, fun i j hi hj hij k hk => ?_, fun i hi => ?_⟩
  · intro q hq
    have hname : (hideF S t f (q / 4)).name = (S (q / 4)).name ∧ (hideF S t f (q / 4)).own = (S (q / 4)).own := by
      by_cases e : q / 4 = t
      · rw [e, htt]; exact ⟨rfl, rfl⟩
      · rw [hnf _ e]; exact ⟨rfl, rfl⟩
    unfold seenCell
    rw [hname.1, hname.2]
    by_cases e : q / 4 = t
    · have e3 : (q = t * 4 + 3) = (q % 4 = 3) := by rw [eq_iff_iff]; omega
      have e1 : (q = t * 4 + 1) = (q % 4 = 1) := by rw [eq_iff_iff]; omega
      have hm : q % 4 = 0 ∨ q % 4 = 1 ∨ q % 4 = 2 ∨ q % 4 = 3 := by omega
      rcases hm with hm | hm | hm | hm <;> simp [e3, e1, hm, e]
    · rw [if_neg (by omega), if_neg (by omega)]
      simp [e]
  · by_cases e : i = t
    · subst e
      rw [if_pos rfl, htt]
      have r : Row (w3.setCell ⟨g, i * 4 + 3, none⟩ (.slice (some ⟨ob, 0, none⟩) ((S i).nf - 1) oc)) base 138 3 (.slice (some ⟨fb, 0, none⟩) ((S i).nf - 1) fc) ((S i).nf - 1) (fun q => fieldCell (S i).F (if q < f * 3 then q else q + 3)) := h1.at fun k hk => by
        have : k = fb := by simpa [Value.ownBlock, eq_comm] using hk
        subst this
        rw [Below.heap_setCell _ _ _ _ (Ne.symm ngf'), g3.block k (by simpa using Nat.lt_of_lt_of_le lf g1.size) (by simpa using nfo), Below.heap_setCell _ _ _ _ (Ne.symm ngf')]
      refine r.congr fun q hq => ?_
      obtain ⟨s1, s2⟩ := skip_cell (i := f) (q := q) (size := 3) (by decide)
      unfold fieldCell
      rw [s1, s2]
    · rw [if_neg e, hnf i e]
      refine (h.fields i hi).at fun k hk => keep k ((h.fields i hi).lt hk).2 (fun e' => h.fapart t i ht hi (Ne.symm e) fb hbf (by rw [hk, e'])) (fun e' => (h.fields i hi).ne ro (by decide) hk (by rw [hbo, e'])) (fun e' => (h.fields i hi).ne h.row (by decide) hk (by rw [e']; rfl))
  · by_cases e : i = t
    · subst e
      rw [if_pos rfl, htt]
      refine (h3.set_other (p := ⟨g, i * 4 + 3, none⟩) (fun e' => ngo' (by simpa [Value.ownBlock, eq_comm] using e')) _).congr fun q hq => ?_
      show Value.string ((S i).O (if q < f * 1 then q else q + 1)) = Value.string ((S i).O (if q < f then q else q + 1))
      rw [Nat.mul_one]
    · rw [if_neg e, hnf i e]
      refine (h.owns i hi).at fun k hk => keep k ((h.owns i hi).lt hk).2 (fun e' => rf.ne (h.owns i hi) (by decide) hbf (by rw [hk, e'])) (fun e' => h.oapart t i ht hi (Ne.symm e) ob hbo (by rw [hk, e'])) (fun e' => (h.owns i hi).ne h.row (by decide) hk (by rw [e']; rfl))
  · have bl : ∀ i, i < n → (if i = t then Value.slice (some ⟨fb, 0, none⟩) ((S t).nf - 1) fc else fv i).ownBlock = (fv i).ownBlock := fun i hi => by
      by_cases e : i = t
      · rw [if_pos e, e, hbf]; rfl
      · rw [if_neg e]
    rw [bl i hi] at hk
    rw [bl j hj]
    exact h.fapart i j hi hj hij k hk
  · have bl : ∀ i, i < n → (if i = t then Value.slice (some ⟨ob, 0, none⟩) ((S t).nf - 1) oc else ov i).ownBlock = (ov i).ownBlock := fun i hi => by
      by_cases e : i = t
      · rw [if_pos e, e, hbo]; rfl
      · rw [if_neg e]
    rw [bl i hi] at hk
    rw [bl j hj]
    exact h.oapart i j hi hj hij k hk
  · by_cases e : i = t
    · subst e
      obtain ⟨q1, q2, q3, q4, q5⟩ := h.good i hi
      rw [htt]
      have hsk : ∀ j, j < (S i).nf - 1 → skip f j < (S i).nf := fun j hj => by unfold skip; split <;> omega
      exact ⟨q1, q2, Nat.le_trans (Nat.sub_le _ _) q3, fun j hj => q4 _ (hsk j hj), fun j hj => q5 _ (hsk j hj)⟩
    · rw [hnf i e]; exact h.good i hi

set_option maxRecDepth 100000 in
set_option maxHeartbeats 1000000 in
theorem hide_any (base n t f g cap : Nat) (fv ov : Nat → Value) (S : Nat → PSeen) (w : World) (hS : Seens w base (.slice (some ⟨g, 0, none⟩) n cap) n fv ov S) (ht : t < n) (hf : f < (S t).nf) (hbase : base ≤ w.heap.size) :
    Calls Try.prog 127 #[.pointer (some ⟨g, t * 4, none⟩), .int .i64 (f : Int)] w fun e w' => e = .returned (.tuple #[]) ∧ (∃ fv' ov', Seens w' base (.slice (some ⟨g, 0, none⟩) n cap) n fv' ov' (hideF S t f)) ∧ Below base w w' := by
  have hgood := hS.good t ht
  have rf := hS.fields t ht
  have ro := hS.owns t ht
  rcases rf.shape with ⟨-, h0⟩ | ⟨fb, fc, hfv, hfb, -, -⟩
  · omega
  rcases ro.shape with ⟨-, h0⟩ | ⟨ob, oc, hov, hob, -, -⟩
  · omega
  obtain ⟨k0, k1, k2, k3⟩ := hS.cells ht
  have z1 := hS.row.free (t * 4 + 1)
  have hgb : base ≤ g := (hS.row.lt (k := g) rfl).1
  have ngf : g ≠ fb := fun e => rf.ne hS.row (by decide) (k := fb) (by rw [hfv]; rfl) (by rw [e]; rfl)
  have ngo : g ≠ ob := fun e => ro.ne hS.row (by decide) (k := ob) (by rw [hov]; rfl) (by rw [e]; rfl)
  have nfo : fb ≠ ob := fun e => rf.ne ro (by decide) (k := fb) (by rw [hfv]; rfl) (by rw [hov, e]; rfl)
  rw [hfv] at k1 rf
  rw [hov] at k3 ro
  have hnf : (S t).nf ≤ 9223372036854775807 := hgood.2.2.1
  have HS : Hid (Seens w base (.slice (some ⟨g, 0, none⟩) n cap) n fv ov S) := hS
  have HFV : Hid (fv t = .slice (some ⟨fb, 0, none⟩) (S t).nf fc) := hfv
  have HOV : Hid (ov t = .slice (some ⟨ob, 0, none⟩) (S t).nf oc) := hov
  have HRO : Hid (Row w base 9 1 (.slice (some ⟨ob, 0, none⟩) (S t).nf oc) (S t).nf (textCell (S t).O)) := ro
  have hcl := delete_fields base (S t).nf f fb fc (fieldCell (S t).F) w rf (fun q _ => fieldCell_one _ _) hf hgood.2.2.1
  have hm : (S t).nf ≤ maxLen := hgood.2.2.1
  have lob := (ro.lt (k := ob) rfl).2
  clear hS hfv hov hgood rf ro
  have hf' : (f : Int) < ((S t).nf : Int) := by omega
  go_enter Try.func127, Try.ntmps127
  go_wp2_with fail
  refine hcl.mono ?_
  clear hcl
  rintro e w1 ⟨rfl, hr1, hg1⟩
  have c1 : w1.cell? ⟨g, t * 4 + 1, none⟩ = some (.slice (some ⟨fb, 0, none⟩) (S t).nf fc) := hg1.cell k1 (by simpa using ngf)
  have c3 : w1.cell? ⟨g, t * 4 + 3, none⟩ = some (.slice (some ⟨ob, 0, none⟩) (S t).nf oc) := hg1.cell k3 (by simpa using ngf)
  have hgl : g < w.heap.size := block_lt_of_cell k1
  have y1 : w1.frozen? ⟨g, t * 4 + 1, none⟩ = false := (World.frozen?_of_block (w := w) (hg1.block g hgl (by simpa using ngf))).trans z1
  have hz1 : w.heap.size ≤ w1.heap.size := hg1.size
  have HG1 : Hid (w.grownBy w1 (some fb)) := hg1
  have HR1 : Hid (Row w1 base 138 3 (.slice (some ⟨fb, 0, none⟩) ((S t).nf - 1) fc) ((S t).nf - 1) (fun q => fieldCell (S t).F (if q < f * 3 then q else q + 3))) := hr1
  have hro2 : Row (w1.setCell ⟨g, t * 4 + 1, none⟩ (.slice (some ⟨fb, 0, none⟩) ((S t).nf - 1) fc)) base 9 1 (.slice (some ⟨ob, 0, none⟩) (S t).nf oc) (S t).nf (textCell (S t).O) :=
    (HRO.out.grown hg1 (fun k hk e => nfo (by simp [Value.ownBlock] at hk e; omega))).set_other (p := ⟨g, t * 4 + 1, none⟩) (fun e => ngo (by simpa [Value.ownBlock, eq_comm] using e)) _
  have hcl := delete_texts base (S t).nf f ob oc (textCell (S t).O) _ hro2 (fun q _ => textCell_one _ _) hf hm
  clear hg1 hr1 hro2 k0 k1 k2 k3 z1 lob
  go_wp2_with fail
  refine hcl.mono ?_
  clear hcl
  rintro e w3 ⟨rfl, hr3, hg3⟩
  have hgl3 : g < (w1.setCell ⟨g, t * 4 + 1, none⟩ (.slice (some ⟨fb, 0, none⟩) ((S t).nf - 1) fc)).heap.size := by simp; omega
  have c3' : w3.cell? ⟨g, t * 4 + 3, none⟩ = some (.slice (some ⟨ob, 0, none⟩) (S t).nf oc) := hg3.cell (by rw [World.cell?_setCell_other _ _ _ _ (by simp)]; exact c3) (by simpa using ngo)
  have y3 : w3.frozen? ⟨g, t * 4 + 3, none⟩ = false := by
    have hrow := (HS.out.row.grown HG1.out (fun k hk e => ngf (by simp [Value.ownBlock] at hk e; omega))).set (t * 4 + 1) (.slice (some ⟨fb, 0, none⟩) ((S t).nf - 1) fc)
    exact (hrow.grown hg3 (fun k hk e => ngo (by simp [Value.ownBlock] at hk e; omega))).free _
  have HB : Hid (Below base w (w3.setCell ⟨g, t * 4 + 3, none⟩ (.slice (some ⟨ob, 0, none⟩) ((S t).nf - 1) oc))) := ((((Below.refl base w).grown HG1.out hbase (fun k hk => by simp at hk; omega)).setCell hgb _).grown hg3 (by simp; omega) (fun k hk => by simp at hk; omega)).setCell hgb _
  have HF : Hid (Seens (w3.setCell ⟨g, t * 4 + 3, none⟩ (.slice (some ⟨ob, 0, none⟩) ((S t).nf - 1) oc)) base (.slice (some ⟨g, 0, none⟩) n cap) n _ _ (hideF S t f)) := hide_set HS.out ht hf HFV.out HOV.out HR1.out HG1.out hr3 hg3
  clear hr3 hg3 c1 c3 y1
  go_wp2_with fail
  go_end0
  exact ⟨rfl, ⟨_, _, HF.out⟩, HB.out⟩
end Go.Proofs.Ytjjggefmmeminab
