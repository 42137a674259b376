import Derived.Test.YtjjggefmmeminacGreatJGp
import Derived.Test.YtjjggefmmeminacGreatGrMem
import Derived.Test.YtjjggefmmeminacGreatJSv
/-
  Services that nobody asks may be without their things; a map from numbers to whether.
-/
namespace Go.Proofs.YtjjggefmmeminacGreat
open Go.RowKit Go.Sort Go.PlainAid

def noX (s : LServ) : LServ := { s with xa := none, nx := 0, xcap := 0 }
def othV (V : Nat → LServ) (p : Nat → Bool) (i : Nat) : LServ := if p i = true then V i else noX (V i)
theorem othV_nt (V : Nat → LServ) (p : Nat → Bool) : ntS (othV V p) = ntS V := by funext i; unfold ntS othV; split <;> rfl
theorem othV_seen (V : Nat → LServ) (p : Nat → Bool) : seenA (othV V p) = seenA V := by funext i; unfold seenA othV; split <;> rfl
theorem othV_all {n : Nat} {V : Nat → LServ} (p : Nat → Bool) (h0 : (allF n V).1 = 0) : (allF n (othV V p)).1 = 0 := by
  obtain ⟨hn, hj⟩ := wrongF_ok (allF_wrong h0)
  have hw' : (wrongF n (othV V p)).1 = 0 := by
    unfold wrongF
    rw [if_neg (by omega)]
    refine fault_zero.2 fun i hi => ?_
    obtain ⟨h1, h2⟩ := hj i hi
    unfold othV wrongServ
    split
    · rw [if_neg (fun h => h h1)]; exact h2
    · have e : seeE (noX (V i)) = seeE (V i) := rfl
      rw [e, if_neg (fun h => h h1)]
      show (wrongThings (V i).nt (V i).T 0 (V i).X).1 = 0
      unfold wrongThings
      rw [if_neg (by omega)]
      exact fault_zero.2 fun j hj => absurd hj (Nat.not_lt_zero _)
  have hw : (wrongF n V).1 = 0 := allF_wrong h0
  unfold allF at h0 ⊢
  rw [if_neg (fun h => h hw)] at h0
  rw [if_neg (fun h => h hw'), othV_nt, othV_seen]
  exact h0
theorem oth_plain {n : Nat} {V : Nat → LServ} {d : Nat} {type key : ByteArray} {ps : List (Pick d)} (h : meanE n V d type key ps = 0) (p : Nat → Bool) (hp : ∀ r, r ∈ reqs n V d type key ps → p r.svc.toNat = true) :
    meanE n (othV V p) d type key ps = 0 ∧ meanG n (othV V p) d type key ps = meanG n V d type key ps ∧ reqs n (othV V p) d type key ps = reqs n V d type key ps := by
  have hr : reqs n V d type key ps = asks V (allP (ntS V) (seenA V) n) d (pOf (allP (ntS V) (seenA V) n) type) [key] ps := by unfold reqs; rw [if_pos h]
  obtain ⟨h0, hc, ht⟩ := meanE_zero.1 h
  obtain ⟨hw, hpi, hcR⟩ := cA_wA hc
  obtain ⟨-, -, hN, -⟩ := part_right h0
  have hne : ps ≠ [] := fun e => by have := (wA_sm hw).2; rw [e] at this; simp at this
  obtain ⟨e1, e2, e3⟩ := asks_others (V := V) (V' := othV V p) (char_all n) hN d type [key] ps [] hne hpi hcR fun r hm => by
    unfold othV
    rw [if_pos (hp r (by rw [hr]; exact hm))]
  have hE : meanE n (othV V p) d type key ps = 0 := meanE_zero.2 ⟨othV_all p h0, by rw [othV_nt, othV_seen]; exact hc, by rw [othV_nt, othV_seen, e2]; exact ht⟩
  refine ⟨hE, ?_, ?_⟩
  · unfold meanG
    rw [if_pos hE, if_pos h, othV_nt, othV_seen]
    exact e3 key (by simp)
  · unfold reqs
    rw [if_pos hE, if_pos h, othV_nt, othV_seen]
    exact e1

theorem Tryz.keyedI : Maps.Keyed Tryz.prog 3 := Maps.int_keyed Tryz.underlying3
theorem Tryz.zeroB (w : World) : (zeroValue 4).run Tryz.prog w = .ok (.bool false) w := by kernel_rfl
/-- Block b is a map from numbers of at most n, that says f. -/
def IMap (w : World) (b n : Nat) (f : Int → Bool) : Prop :=
  ∃ D : DataW Value, w.ownsMap Tryz.prog 3 heldElem b n D ∧ ∀ s, (Lit.int .i64 s).wf = true → D.atKey (.int .i64 s) (.held (.bool false)) = .held (.bool (f s))
theorem IMap.made (w : World) : IMap (w.alloc (.map #[] 0)) w.heap.size 0 (fun _ => false) :=
  ⟨.map [], World.ownsMap_made w _ _ _, fun _ _ => rfl⟩
theorem IMap.lt {w : World} {b n : Nat} {f : Int → Bool} (h : IMap w b n f) : b < w.heap.size := let ⟨_, h, _⟩ := h; h.lt
theorem IMap.at {w w' : World} {b n : Nat} {f : Int → Bool} (h : IMap w b n f) (hb : w'.heap[b]? = w.heap[b]?) : IMap w' b n f := by
  obtain ⟨D, ⟨es, clock, h1, h2⟩, h3⟩ := h
  exact ⟨D, ⟨es, clock, hb.trans h1, h2⟩, h3⟩
theorem IMap.kept {w w' : World} {b n : Nat} {f : Int → Bool} (h : IMap w b n f) (hB : Below w.heap.size w w') : IMap w' b n f := h.at (hB.block b h.lt)
theorem IMap.look {w : World} {b n : Nat} {f : Int → Bool} (h : IMap w b n f) {s : Int} (hs : (Lit.int .i64 s).wf = true) : (Instr.lookup 32 (.map (some b)) (.int .i64 s) false).run Tryz.prog w = .ok (.bool (f s)) w := by
  obtain ⟨D, h1, h2⟩ := h
  obtain ⟨v, ps, hr, hc⟩ := h1.lookup Tryz.keyedI Tryz.underlying32 (Tryz.zeroB w) (zd := .held (.bool false)) (zp := []) rfl (Maps.keyOf_int_mk Tryz.underlying3 hs)
  rw [h2 s hs] at hc
  rw [held_inj hc] at hr
  exact hr
theorem IMap.store {w : World} {b n : Nat} {f : Int → Bool} (h : IMap w b n f) (hn : n < maxLen) {s : Int} (hs : (Lit.int .i64 s).wf = true) :
    ∃ w', (Instr.mapUpdate 32 (.map (some b)) (.int .i64 s) (.bool true)).run Tryz.prog w = .ok () w' ∧ IMap w' b (n + 1) (fun u => if u = s then true else f u) ∧ w.mapTurned w' b := by
  obtain ⟨D, h1, h2⟩ := h
  have hm := h1.isMap
  obtain ⟨w', hr, h3, h4⟩ := h1.store Tryz.keyedI Tryz.underlying32 hn (Maps.keyOf_int_mk Tryz.underlying3 hs) (val := .bool true) (d := .held (.bool true)) (ps := []) rfl
  refine ⟨w', hr, ⟨_, h3, fun u hu => ?_⟩, h4⟩
  by_cases e : u = s
  · subst e
    have hl : WideAt.IsKeyLit (.int .i64 u) := by simp [WideAt.IsKeyLit]
    simp only [if_true]
    rw [Maps.atKey_put_same hm hl]
  · have hne : (Lit.int .i64 u) ≠ .int .i64 s := fun h => e (by cases h; rfl)
    simp only [e, if_false]
    rw [Maps.atKey_put_other hne]
    exact h2 u hu
/-- Was one of the first k asked? -/
def askedK (R : List PReq) (k : Nat) (s : Int) : Bool := (R.take k).any (fun r => decide (r.svc = s))
theorem askedK_succ {R : List PReq} {k : Nat} (hk : k < R.length) (s : Int) : askedK R (k + 1) s = if s = (reqN R k).svc then true else askedK R k s := by
  unfold askedK
  rw [List.take_succ_eq_append_getElem hk, List.any_append, reqN_get hk]
  by_cases h : s = R[k].svc
  · subst h; simp
  · rw [if_neg h]
    have : ¬ R[k].svc = s := fun e => h e.symm
    simp [this]
theorem askedK_all {R : List PReq} {r : PReq} (hr : r ∈ R) : askedK R R.length r.svc = true := by
  unfold askedK
  rw [List.take_length, List.any_eq_true]
  exact ⟨r, hr, by simp⟩
end Go.Proofs.YtjjggefmmeminacGreat
