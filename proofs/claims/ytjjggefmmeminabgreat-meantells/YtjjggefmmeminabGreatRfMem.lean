import Derived.Test.YtjjggefmmeminabGreatChSee
import Derived.Test.YtjjggefmmeminabGreatJRe
/-
  stitchref1.Seen as it lies in own memory: rows of texts (own names, what types are called, what each one's fields are called), all apart; stitchref1.place.
-/
namespace Go.Proofs.YtjjggefmmeminabGreat
open Go.RowKit Go.Sort

def pl (n : Nat) (K : Nat → ByteArray) (s : ByteArray) : Int := idx n (fun j => eqs (K j) s)

set_option maxRecDepth 100000 in
set_option maxHeartbeats 400000 in
theorem place_any (a : Option Addr) (n cap : Nat) (K : Nat → ByteArray) (name : ByteArray) (w : World) (hK : KeysAt w a n K) :
    Calls Tryz.prog 74 #[.slice a n cap, .string name] w fun e w' => e = .returned (.int .i64 (pl n K name)) ∧ Below w.heap.size w w' := by
  have hn : n ≤ 9223372036854775807 := hK.1
  have HK : Hid (KeysAt w a n K) := hK
  clear hK
  go_enter Tryz.func74, Tryz.ntmps74
  go_wp2_with fail
  go_loopw [9] (fun i wr => ∃ k : Nat, k ≤ n ∧ i = .int .i64 k ∧ Hid (∀ j, j < k → eqs (K j) name = false) ∧ Below w.heap.size w wr) (fun i _ => n - (intOf i).toNat)
  case atStart => exact ⟨0, Nat.zero_le _, rfl, (fun j hj => absurd hj (Nat.not_lt_zero _)), Below.refl _ _⟩
  case round =>
    obtain ⟨k, hk, rfl, hb, hw⟩ := hrel
    by_cases hlt : k < n
    · obtain ⟨b, o, ha, hc0, -⟩ := (HK.out.kept hw).2 k hlt
      subst ha
      have hlt' : (k : Int) < (n : Int) := by omega
      have hk0 : (0 : Int) ≤ (k : Int) := by omega
      cases he : ((K k).toList == name.toList)
      · have hb2 : Hid (∀ j, j < k + 1 → eqs (K j) name = false) := fun j hj => by
          rcases Nat.lt_succ_iff_lt_or_eq.1 hj with h | h
          · exact hb j h
          · rw [h, ← eqs_eq]; exact he
        go_wp2_with fail
        go_roundw
        case rel => exact ⟨k + 1, by omega, by go_num, hb2, hw⟩
        case measure => simp [intOf]; omega
      · have hq : Hid (pl n K name = (k : Int)) := idx_hit hlt (by show eqs (K k) name = true; rw [← eqs_eq]; exact he) hb.out
        go_wp2_with fail
        go_ret
        exact ⟨by rw [hq.out]; rfl, hw⟩
    · have hq : Hid (pl n K name = -1) := idx_none (fun j hj => hb.out j (by omega))
      go_wp2_with fail
      go_ret
      exact ⟨by rw [hq.out]; rfl, hw⟩

structure RS (w : World) (base bs n : Nat) (fv : Value) (rows : Nat → Value) (len : Nat → Nat) (txt : Nat → Nat → ByteArray) : Prop where
  hbs : base ≤ bs
  box : w.heap[bs]? = some (.cells #[rows 0, rows 1, fv] 107 (0, 0))
  frow : Row w base 65 1 fv n (fun i => rows (2 + i))
  texts : ∀ k, k < n + 2 → Row w base 9 1 (rows k) (len k) (textCell (txt k))
  apart : ∀ j k, j < n + 2 → k < n + 2 → j ≠ k → ∀ b, (rows j).ownBlock = some b → (rows k).ownBlock ≠ some b
  lens : ∀ k, k < n + 2 → len k ≤ maxLen
  good : ∀ k, k < n + 2 → ∀ j, j < len k → Small (txt k j)
  nmax : n ≤ maxLen

theorem RS.kept {w w' : World} {base bs n : Nat} {fv : Value} {rows : Nat → Value} {len : Nat → Nat} {txt : Nat → Nat → ByteArray} (h : RS w base bs n fv rows len txt) (hb : Below w.heap.size w w') : RS w' base bs n fv rows len txt :=
  ⟨h.hbs, (hb.block bs (lt_of_block h.box)).trans h.box, h.frow.kept hb, fun k hk => (h.texts k hk).kept hb, h.apart, h.lens, h.good, h.nmax⟩
theorem RS.keys {w : World} {base bs n : Nat} {fv : Value} {rows : Nat → Value} {len : Nat → Nat} {txt : Nat → Nat → ByteArray} (h : RS w base bs n fv rows len txt) {k : Nat} (hk : k < n + 2) : ∃ a cap, rows k = .slice a (len k) cap ∧ len k ≤ cap ∧ KeysAt w a (len k) (txt k) :=
  (h.texts k hk).keysAt (h.lens k hk) (h.good k hk)

def setT (txt : Nat → Nat → ByteArray) (k j : Nat) (s : ByteArray) : Nat → Nat → ByteArray := fun k' j' => if k' = k ∧ j' = j then s else txt k' j'

/-- A text of a row is stored. -/
theorem RS.setText {w : World} {base bs n : Nat} {fv : Value} {rows : Nat → Value} {len : Nat → Nat} {txt : Nat → Nat → ByteArray} (h : RS w base bs n fv rows len txt) {k j g cap : Nat} (hk : k < n + 2) (hv : rows k = .slice (some ⟨g, 0, none⟩) (len k) cap) {s : ByteArray} (hs : Small s) :
    RS (w.setCell ⟨g, j, none⟩ (.string s)) base bs n fv rows len (setT txt k j s) := by
  have hbk : (rows k).ownBlock = some g := by rw [hv]; rfl
  have rk := h.texts k hk
  have n1 : fv.ownBlock ≠ some g := rk.ne h.frow (by decide) hbk
  have n2 : bs ≠ g := rk.box_ne hbk h.box (by decide)
  refine ⟨h.hbs, (Below.heap_setCell _ _ _ _ n2).trans h.box, h.frow.set_other (p := ⟨g, j, none⟩) n1 _, fun i hi => ?_, h.apart, h.lens, fun i hi q hq => ?_, h.nmax⟩
  · by_cases e : i = k
    · subst e
      rw [hv] at rk ⊢
      refine (rk.set j (.string s)).congr fun q hq => ?_
      unfold textCell setT
      by_cases e2 : q = j
      · simp [e2]
      · simp [e2]
    · refine ((h.texts i hi).set_other (p := ⟨g, j, none⟩) (h.apart k i hk hi (Ne.symm e) g hbk) _).congr fun q hq => ?_
      unfold textCell setT
      simp [e]
  · unfold setT
    by_cases e : i = k ∧ q = j
    · rw [if_pos e]; exact hs
    · rw [if_neg e]; exact h.good i hi q hq

def doF (len : Nat → Nat) (txt : Nat → Nat → ByteArray) (t : Nat) (c : PChange) : Int × (Nat → Nat → ByteArray) :=
  if pl (len (2 + t)) (txt (2 + t)) c.field < 0 ∨ c.field.size = 0 then (5, txt)
  else if c.kind = 3 then (0, setT txt (2 + t) (pl (len (2 + t)) (txt (2 + t)) c.field).toNat ⟨#[]⟩)
  else if !named c.to || decide (0 ≤ pl (len (2 + t)) (txt (2 + t)) c.to) then (6, txt) else (0, setT txt (2 + t) (pl (len (2 + t)) (txt (2 + t)) c.field).toNat c.to)
def doR (n : Nat) (len : Nat → Nat) (txt : Nat → Nat → ByteArray) (c : PChange) : Int × (Nat → Nat → ByteArray) :=
  if c.kind ≠ 1 ∧ c.kind ≠ 2 ∧ c.kind ≠ 3 then (1, txt)
  else if pl n (txt 1) c.type < 0 then (5, txt)
  else if c.kind = 1 then (if !named c.to || decide (0 ≤ pl n (txt 1) c.to) then (6, txt) else (0, setT txt 1 (pl n (txt 1) c.type).toNat c.to))
  else doF len txt (pl n (txt 1) c.type).toNat c

theorem pl_hit {n : Nat} {K : Nat → ByteArray} {s : ByteArray} (h : ¬ pl n K s < 0) : (pl n K s).toNat < n ∧ K (pl n K s).toNat = s ∧ pl n K s = ((pl n K s).toNat : Int) := by
  unfold pl at *
  rcases idx_cases n (fun i => eqs (K i) s) with ⟨e, _⟩ | ⟨k, hk, e, h1, _⟩
  · rw [e] at h; omega
  · rw [e]; exact ⟨by simpa using hk, by simpa using eqs_iff.1 h1, by simp⟩
end Go.Proofs.YtjjggefmmeminabGreat
