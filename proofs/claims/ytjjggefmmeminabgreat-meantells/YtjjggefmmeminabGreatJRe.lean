/- Joined: RefFind, RefNamed, RefVals. -/
import Derived.Test.YtjjggefmmeminabGreatJPl
import Derived.Test.YtjjggefmmeminabGreatJWr
import Derived.Test.YtjjggefmmeminabGreatJBase
/-
  The contracts of stitchref1.Type, At, Has and Thing: found just where the first one is.
-/
namespace Go.Proofs.YtjjggefmmeminabGreat
open Go.RowKit Go.Sort Go.PlainAid

/-- A pointer to the type that find tells, or nil. -/
def typePtr (a : Option Addr) (n : Nat) (T : Nat → LType) (name : ByteArray) : Value :=
  if find n T name < 0 then .pointer none else .pointer (a.map fun ad => ⟨ad.block, ad.off + (find n T name).toNat * 2, none⟩)
theorem typePtr_none {a : Option Addr} {n : Nat} {T : Nat → LType} {name : ByteArray} (h : find n T name < 0) : typePtr a n T name = .pointer none := by unfold typePtr; rw [if_pos h]
theorem typePtr_some {b o n t : Nat} {T : Nat → LType} {name : ByteArray} (h : find n T name = (t : Int)) : typePtr (some ⟨b, o, none⟩) n T name = .pointer (some ⟨b, o + t * 2, none⟩) := by
  unfold typePtr; rw [h, if_neg (by omega), Int.toNat_natCast]; rfl

set_option maxHeartbeats 1000000 in
theorem refType_any (a : Option Addr) (n cap : Nat) (T : Nat → LType) (name : ByteArray) (w : World) (hT : TypesAt w a n T) :
    Calls Tryz.prog 103 #[.slice a n cap, .string name] w fun e w' => e = .returned (typePtr a n T name) ∧ Below w.heap.size w w' := by
  have hn : n ≤ 9223372036854775807 := hT.1
  have HT : Hid (TypesAt w a n T) := hT
  clear hT
  go_enter Tryz.func103, Tryz.ntmps103
  go_wp2_with fail
  go_loop [8] (fun i => ∃ k : Nat, k ≤ n ∧ i = .int .i64 k ∧ Hid (∀ j, j < k → eqs (T j).name name = false)) (fun i => n - (intOf i).toNat)
  case atStart => exact ⟨0, Nat.zero_le _, rfl, (fun j hj => absurd hj (Nat.not_lt_zero _))⟩
  case round =>
    obtain ⟨k, hk, rfl, hb⟩ := hrel
    by_cases hlt : k < n
    · obtain ⟨b, o, ha, hc, -⟩ := HT.out.2 k hlt
      subst ha
      have hlt' : (k : Int) < (n : Int) := by omega
      have hk0 : (0 : Int) ≤ (k : Int) := by omega
      cases he : ((T k).name.toList == name.toList)
      · have hb2 : Hid (∀ j, j < k + 1 → eqs (T j).name name = false) := fun j hj => by
          rcases Nat.lt_succ_iff_lt_or_eq.1 hj with h | h
          · exact hb j h
          · rw [h, ← eqs_eq]; exact he
        go_wp2_with fail
        go_round
        case rel => exact ⟨k + 1, by omega, by go_num, hb2⟩
        case measure => simp [intOf]; omega
      · have hq : Hid (typePtr (some ⟨b, o, none⟩) n T name = .pointer (some ⟨b, o + k * 2, none⟩)) := typePtr_some (idx_hit hlt (by show eqs (T k).name name = true; rw [← eqs_eq]; exact he) hb.out)
        go_wp2_with fail
        go_ret
        exact ⟨by rw [hq.out]; rfl, Below.refl _ _⟩
    · have hq : Hid (typePtr a n T name = .pointer none) := typePtr_none (show idx _ _ < 0 from idx_neg.2 (fun j hj => hb.out j (by omega)))
      go_wp2_with fail
      go_ret
      exact ⟨by rw [hq.out]; rfl, Below.refl _ _⟩

set_option maxHeartbeats 1000000 in
theorem refAt_any (a : Option Addr) (n cap : Nat) (F : Nat → LField) (name : ByteArray) (w : World) (hF : FieldsAt w a n F) :
    Calls Tryz.prog 45 #[.slice a n cap, .string name] w fun e w' => e = .returned (.int .i64 (fieldIdx n F name)) ∧ Below w.heap.size w w' := by
  have hn : n ≤ 9223372036854775807 := hF.1
  have HF : Hid (FieldsAt w a n F) := hF
  clear hF
  go_enter Tryz.func45, Tryz.ntmps45
  go_wp2_with fail
  go_loopw [9] (fun i wr => ∃ k : Nat, k ≤ n ∧ i = .int .i64 k ∧ Hid (∀ j, j < k → eqs (F j).name name = false) ∧ Below w.heap.size w wr) (fun i _ => n - (intOf i).toNat)
  case atStart => exact ⟨0, Nat.zero_le _, rfl, (fun j hj => absurd hj (Nat.not_lt_zero _)), Below.refl _ _⟩
  case round =>
    obtain ⟨k, hk, rfl, hb, hw⟩ := hrel
    by_cases hlt : k < n
    · obtain ⟨b, o, ha, hc0, hc1, hc2, -⟩ := (HF.out.kept hw).2 k hlt
      subst ha
      have hlt' : (k : Int) < (n : Int) := by omega
      have hk0 : (0 : Int) ≤ (k : Int) := by omega
      cases he : ((F k).name.toList == name.toList)
      · have hb2 : Hid (∀ j, j < k + 1 → eqs (F j).name name = false) := fun j hj => by
          rcases Nat.lt_succ_iff_lt_or_eq.1 hj with h | h
          · exact hb j h
          · rw [h, ← eqs_eq]; exact he
        go_wp2_with fail
        go_roundw
        case rel => exact ⟨k + 1, by omega, by go_num, hb2, hw.trans ((below1 wr _).mono hw.size)⟩
        case measure => simp [intOf]; omega
      · have hq : Hid (fieldIdx n F name = (k : Int)) := idx_hit hlt (by show eqs (F k).name name = true; rw [← eqs_eq]; exact he) hb.out
        go_wp2_with fail
        go_ret
        exact ⟨by rw [hq.out]; rfl, hw.trans ((below1 wr _).mono hw.size)⟩
    · have hq : Hid (fieldIdx n F name = -1) := idx_none (fun j hj => hb.out j (by omega))
      go_wp2_with fail
      go_ret
      exact ⟨by rw [hq.out]; rfl, hw⟩

set_option maxHeartbeats 400000 in
theorem refHas_any (a : Option Addr) (n cap : Nat) (F : Nat → LField) (name : ByteArray) (w : World) (hF : FieldsAt w a n F) :
    Calls Tryz.prog 41 #[.slice a n cap, .string name] w fun e w' => e = .returned (.bool (decide (0 ≤ fieldIdx n F name))) ∧ Below w.heap.size w w' := by
  have hc := refAt_any a n cap F name w hF
  clear hF
  go_enter Tryz.func41, Tryz.ntmps41
  go_wp2_with fail
  refine hc.mono ?_
  rintro e w1 ⟨rfl, hw1⟩
  go_wp2_with fail
  go_ret
  exact ⟨rfl, hw1⟩

/-- A pointer to the thing of that type and key, or nil. -/
def thingPtr (a : Option Addr) (n : Nat) (X : Nat → LThing) (typ key : ByteArray) : Value :=
  if idx n (sameThing X typ key) < 0 then .pointer none else .pointer (a.map fun ad => ⟨ad.block, ad.off + (idx n (sameThing X typ key)).toNat * 3, none⟩)
theorem thingPtr_none {a : Option Addr} {n : Nat} {X : Nat → LThing} {typ key : ByteArray} (h : idx n (sameThing X typ key) < 0) : thingPtr a n X typ key = .pointer none := by unfold thingPtr; rw [if_pos h]
theorem thingPtr_some {b o n t : Nat} {X : Nat → LThing} {typ key : ByteArray} (h : idx n (sameThing X typ key) = (t : Int)) : thingPtr (some ⟨b, o, none⟩) n X typ key = .pointer (some ⟨b, o + t * 3, none⟩) := by
  unfold thingPtr; rw [h, if_neg (by omega), Int.toNat_natCast]; rfl

set_option maxHeartbeats 1000000 in
theorem refThing_any (a : Option Addr) (n cap : Nat) (X : Nat → LThing) (typ key : ByteArray) (w : World) (hX : ThingsAt w a n X) :
    Calls Tryz.prog 44 #[.slice a n cap, .string typ, .string key] w fun e w' => e = .returned (thingPtr a n X typ key) ∧ Below w.heap.size w w' := by
  have hn : n ≤ 9223372036854775807 := hX.1
  have HX : Hid (ThingsAt w a n X) := hX
  clear hX
  go_enter Tryz.func44, Tryz.ntmps44
  go_wp2_with fail
  go_loop [10] (fun i => ∃ k : Nat, k ≤ n ∧ i = .int .i64 k ∧ Hid (∀ j, j < k → sameThing X typ key j = false)) (fun i => n - (intOf i).toNat)
  case atStart => exact ⟨0, Nat.zero_le _, rfl, (fun j hj => absurd hj (Nat.not_lt_zero _))⟩
  case round =>
    obtain ⟨k, hk, rfl, hb⟩ := hrel
    by_cases hlt : k < n
    · obtain ⟨b, o, ha, hc, hc1, -⟩ := HX.out.2 k hlt
      subst ha
      have hlt' : (k : Int) < (n : Int) := by omega
      have hk0 : (0 : Int) ≤ (k : Int) := by omega
      have hb2 : Hid (sameThing X typ key k = false → ∀ j, j < k + 1 → sameThing X typ key j = false) := fun h0 j hj => by
        rcases Nat.lt_succ_iff_lt_or_eq.1 hj with h | h
        · exact hb j h
        · rw [h]; exact h0
      have hst : Hid (sameThing X typ key k = (((X k).type.toList == typ.toList) && ((X k).key.toList == key.toList))) := by unfold Hid sameThing; rw [eqs_eq, eqs_eq]
      cases he : ((X k).type.toList == typ.toList)
      · have hb3 : Hid (∀ j, j < k + 1 → sameThing X typ key j = false) := hb2.out (by rw [hst.out, he]; rfl)
        go_wp2_with fail
        go_round
        case rel => exact ⟨k + 1, by omega, by go_num, hb3⟩
        case measure => simp [intOf]; omega
      · cases he2 : ((X k).key.toList == key.toList)
        · have hb3 : Hid (∀ j, j < k + 1 → sameThing X typ key j = false) := hb2.out (by rw [hst.out, he2, Bool.and_false])
          go_wp2_with fail
          go_round
          case rel => exact ⟨k + 1, by omega, by go_num, hb3⟩
          case measure => simp [intOf]; omega
        · have hq : Hid (thingPtr (some ⟨b, o, none⟩) n X typ key = .pointer (some ⟨b, o + k * 3, none⟩)) := thingPtr_some (idx_hit hlt (by rw [hst.out, he, he2]; rfl) hb.out)
          go_wp2_with fail
          go_ret
          exact ⟨by rw [hq.out]; rfl, Below.refl _ _⟩
    · have hq : Hid (thingPtr a n X typ key = .pointer none) := thingPtr_none (idx_neg.2 (fun j hj => hb.out j (by omega)))
      go_wp2_with fail
      go_ret
      exact ⟨by rw [hq.out]; rfl, Below.refl _ _⟩
end Go.Proofs.YtjjggefmmeminabGreat

/-
  The contracts of stitchref1.Named, Type, At and Has: the same names, the same numbers.
-/
namespace Go.Proofs.YtjjggefmmeminabGreat
open Go.RowKit Go.Sort Go.PlainAid

def rbad (s : ByteArray) (j : Nat) : Bool := !letterB (bt s j) && (decide (j = 0) || !digitB (bt s j))
theorem named_bad {s : ByteArray} {k : Nat} (hk : k < s.size) (h : rbad s k = true) : named s = false := by
  unfold rbad at h
  simp only [Bool.and_eq_true, Bool.not_eq_true', Bool.or_eq_true, decide_eq_true_eq] at h
  obtain ⟨h1, h2⟩ := h
  unfold named
  rcases h2 with h2 | h2
  · subst h2; simp [h1]
  · have : ¬ idx s.size (oddB s) < 0 := by
      rw [idx_neg]
      intro hh
      have := hh k hk
      unfold oddB at this
      simp [h1, h2] at this
    simp [this]
theorem named_good {s : ByteArray} (h : ∀ j, j < s.size → rbad s j = false) : named s = (decide (0 < s.size) && decide (s.size ≤ 12)) := by
  unfold named
  by_cases h0 : s.size = 0
  · simp [h0]
  · have h1 : letterB (bt s 0) = true := by
      have := h 0 (by omega)
      unfold rbad at this
      simpa using this
    have h2 : idx s.size (oddB s) < 0 := by
      rw [idx_neg]
      intro j hj
      have := h j hj
      unfold rbad at this
      unfold oddB
      cases hl : letterB (bt s j)
      · rw [hl] at this
        have h3 : digitB (bt s j) = true := by
          simp at this; exact this.2
        simp [h3]
      · rfl
    by_cases h3 : 12 < s.size
    · simp [h3, show ¬ s.size ≤ 12 by omega]
    · simp [h0, h1, h2, h3, show s.size ≤ 12 by omega, show 0 < s.size by omega]

theorem cell_bytesRow (w : World) (s : ByteArray) (cap : Nat) (e : TypeId) (fz : Nat × Nat) (j : Nat) (hj : j < s.size) : (w.alloc (.cells (bytesRow s cap) e fz)).cell? ⟨w.heap.size, j, none⟩ = some (.int .u8 (bt s j)) := by
  have hj' : j < s.data.size := hj
  have h : (bytesRow s cap)[j]? = some (.int .u8 (bt s j)) := by
    unfold bytesRow
    rw [Array.getElem?_append_left (by simpa using hj'), Array.getElem?_map, Array.getElem?_eq_getElem hj']
    rw [← get_bt s j hj]
    rfl
  unfold World.cell?
  rw [heap_alloc_new]
  simpa using h

set_option maxHeartbeats 1000000 in
theorem refNamed_any (s : ByteArray) (w : World) (hs : Small s) :
    Calls Tryz.prog 75 #[.string s] w fun e w' => e = .returned (.bool (named s)) ∧ Below w.heap.size w w' := by
  have hconv : ∀ w, (convert 9 193 (.string s)).run Tryz.prog w = _ := fun w => run_bytes_of_string w 9 193 5 s Tryz.underlying9 Tryz.underlying193 Tryz.underlying5
  unfold Small maxLen at hs
  go_enter Tryz.func75, Tryz.ntmps75
  go_wp2_with fail
  generalize hW : (w.alloc (Obj.cells (bytesRow s (grownCap w s.size 0 5)) 5 ((bytesRow s (grownCap w s.size 0 5)).size, (bytesRow s (grownCap w s.size 0 5)).size + 1))).drew = W
  have hB : Below w.heap.size w W := by rw [← hW]; exact (below1 w _).drew
  have hcell : ∀ j, j < s.size → W.cell? ⟨w.heap.size, j, none⟩ = some (.int .u8 (bt s j)) := by
    rw [← hW]; exact fun j hj => cell_bytesRow w s _ _ _ j hj
  clear hW
  have HC : Hid (∀ j, j < s.size → W.cell? ⟨w.heap.size, j, none⟩ = some (.int .u8 (bt s j))) := hcell
  clear hcell hconv
  generalize grownCap w s.size 0 5 = cap
  go_loop [9] (fun i => ∃ k : Nat, k ≤ s.size ∧ i = .int .i64 k ∧ Hid (∀ j, j < k → rbad s j = false)) (fun i => s.size - (intOf i).toNat)
  case atStart => exact ⟨0, Nat.zero_le _, rfl, (fun j hj => absurd hj (Nat.not_lt_zero _))⟩
  case round =>
    obtain ⟨k, hk, rfl, hb⟩ := hrel
    by_cases hlt : k < s.size
    · have hc := HC.out k hlt
      have c0 := bt_nonneg s k
      have c1 := bt_le s k
      have hlt' : (k : Int) < (s.size : Int) := by omega
      have hk0 : (0 : Int) ≤ (k : Int) := by omega
      have hgood : Hid (rbad s k = false → ∀ j, j < k + 1 → rbad s j = false) := fun h j hj => by
        rcases Nat.lt_succ_iff_lt_or_eq.1 hj with h' | h'
        · exact hb j h'
        · rw [h']; exact h
      have hrb : Hid (rbad s k = (!(decide (97 ≤ bt s k) && decide (bt s k ≤ 122)) && (decide (k = 0) || !(decide (48 ≤ bt s k) && decide (bt s k ≤ 57))))) := rfl
      have hbad : Hid (rbad s k = true → named s = false) := named_bad hlt
      generalize bt s k = c at *
      by_cases h1 : 97 ≤ c
      · by_cases h2 : c ≤ 122
        · have hq : Hid (∀ j, j < k + 1 → rbad s j = false) := hgood.out (by rw [hrb.out]; simp [h1, h2])
          go_wp2_with fail
          go_round
          case rel => exact ⟨k + 1, by omega, by go_num, hq⟩
          case measure => simp [intOf]; omega
        · have hq : Hid (named s = false) := hbad.out (by rw [hrb.out]; simp [h2, show ¬ c ≤ 57 by omega])
          by_cases h3 : k = 0
          · have h3b : ((k : Int) == 0) = true := by rw [beq_iff_eq]; omega
            clear h3
            go_wp2_with fail
            go_ret
            exact ⟨by rw [hq.out]; rfl, hB⟩
          · have h3b : ((k : Int) == 0) = false := by rw [beq_eq_false_iff_ne]; omega
            have h4 : ¬ c < 48 := by omega
            have h5 : 57 < c := by omega
            clear h3
            go_wp2_with fail
            go_ret
            exact ⟨by rw [hq.out]; rfl, hB⟩
      · by_cases h3 : k = 0
        · have hq : Hid (named s = false) := hbad.out (by rw [hrb.out]; simp [h1, h3])
          have h3b : ((k : Int) == 0) = true := by rw [beq_iff_eq]; omega
          clear h3
          go_wp2_with fail
          go_ret
          exact ⟨by rw [hq.out]; rfl, hB⟩
        · have h3b : ((k : Int) == 0) = false := by rw [beq_eq_false_iff_ne]; omega
          by_cases h4 : c < 48
          · have hq : Hid (named s = false) := hbad.out (by rw [hrb.out]; simp [h1, show ¬ 48 ≤ c by omega])
            clear h3
            go_wp2_with fail
            go_ret
            exact ⟨by rw [hq.out]; rfl, hB⟩
          · by_cases h5 : 57 < c
            · have hq : Hid (named s = false) := hbad.out (by rw [hrb.out]; simp [h1, show ¬ c ≤ 57 by omega])
              clear h3
              go_wp2_with fail
              go_ret
              exact ⟨by rw [hq.out]; rfl, hB⟩
            · have hq : Hid (∀ j, j < k + 1 → rbad s j = false) := hgood.out (by rw [hrb.out]; simp [h3, show 48 ≤ c by omega, show c ≤ 57 by omega])
              clear h3
              go_wp2_with fail
              go_round
              case rel => exact ⟨k + 1, by omega, by go_num, hq⟩
              case measure => simp [intOf]; omega
    · have hq : Hid (named s = (decide (0 < s.size) && decide (s.size ≤ 12))) := named_good (fun j hj => hb j (by omega))
      by_cases h6 : 0 < (s.size : Int)
      · by_cases h7 : (s.size : Int) ≤ 12
        · go_wp2_with fail
          go_ret
          exact ⟨by rw [hq.out]; simp [show 0 < s.size by omega, show s.size ≤ 12 by omega], hB⟩
        · go_wp2_with fail
          go_ret
          exact ⟨by rw [hq.out]; simp [show ¬ s.size ≤ 12 by omega], hB⟩
      · go_wp2_with fail
        go_ret
        exact ⟨by rw [hq.out]; simp [show s.size = 0 by omega], hB⟩
end Go.Proofs.YtjjggefmmeminabGreat

/-
  The contract of stitchref1.WrongVals.
-/
namespace Go.Proofs.YtjjggefmmeminabGreat
open Go.RowKit Go.Sort Go.PlainAid

/-- What is wrong with a thing's vals. -/
def wrongVals (nf : Nat) (F : Nat → LField) (nv : Nat) (V : Nat → LVal) : Int := if nv ≠ nf then 4 else (fault nf (fun j => wrongVal (F j) (V j))).1

set_option maxHeartbeats 2000000 in
theorem refVals_any (b o : Nat) (fa va : Option Addr) (nf fcap nv vcap : Nat) (F : Nat → LField) (V : Nat → LVal) (w : World) (hc : w.cell? ⟨b, o + 1, none⟩ = some (.slice fa nf fcap)) (hF : FieldsAt w fa nf F) (hV : ValsAt w va nv V) :
    Calls Tryz.prog 104 #[.pointer (some ⟨b, o, none⟩), .slice va nv vcap] w fun e w' => e = .returned (.int .i64 (wrongVals nf F nv V)) ∧ Below w.heap.size w w' := by
  have hnf : nf ≤ 9223372036854775807 := hF.1
  have hnv : nv ≤ 9223372036854775807 := hV.1
  have HF : Hid (FieldsAt w fa nf F) := hF
  have HV : Hid (ValsAt w va nv V) := hV
  clear hF hV
  by_cases h4 : nv = nf
  case neg =>
    have h4b : ((nv : Int) != (nf : Int)) = true := by rw [bne_iff_ne]; omega
    have hfin : Hid (wrongVals nf F nv V = 4) := by unfold wrongVals Hid; rw [if_pos h4]
    clear h4
    go_enter Tryz.func104, Tryz.ntmps104
    go_wp2_with fail
    go_ret
    exact ⟨by rw [hfin.out]; rfl, Below.refl _ _⟩
  have hfin0 : Hid (wrongVals nf F nv V = (fault nf (fun j => wrongVal (F j) (V j))).1) := by unfold wrongVals Hid; rw [if_neg (by omega)]
  subst h4
  go_enter Tryz.func104, Tryz.ntmps104
  go_wp2_with fail
  go_loopw [23] (fun i wr => ∃ k : Nat, k ≤ nv ∧ i = .int .i64 k ∧ Hid (∀ j, j < k → wrongVal (F j) (V j) = 0) ∧ Below w.heap.size w wr) (fun i _ => nv - (intOf i).toNat)
  case atStart => exact ⟨0, Nat.zero_le _, rfl, (fun j hj => absurd hj (Nat.not_lt_zero _)), Below.refl _ _⟩
  case round =>
    obtain ⟨k, hk, rfl, hb, hw⟩ := hrel
    by_cases hlt : k < nv
    · obtain ⟨b1, o1, ha, f0, f1, f2, -⟩ := (HF.out.kept hw).2 k hlt
      subst ha
      obtain ⟨b2, o2, ha, v0, v1, v2, -, -, -, hK⟩ := (HV.out.kept hw).2 k hlt
      subst ha
      have hlt' : (k : Int) < (nv : Int) := by omega
      have hk0 : (0 : Int) ≤ (k : Int) := by omega
      have hb2 : b2 < wr.heap.size := block_lt_of_cell v0
      have hnk : (V k).nk ≤ 9223372036854775807 := hK.1
      generalize hy : (V k).ka = ka at *
      generalize hW : (wr.alloc (Obj.cells #[Value.string (F k).name, Value.int IntKind.i64 (F k).kind, Value.string (F k).type] 113)).alloc (Obj.cells #[Value.string (V k).field, Value.string (V k).text, Value.slice ka (V k).nk (V k).kcap] 120) = W
      have hB : Below wr.heap.size wr W := by rw [← hW]; exact below2 _ _ _
      have k0 : W.cell? ⟨wr.heap.size, 0, none⟩ = some (.string (F k).name) := by rw [← hW, World.cell?_alloc_past _ _ _ (by simp), World.cell?_alloc_at _ _ _ _ rfl]; rfl
      have k1 : W.cell? ⟨wr.heap.size, 1, none⟩ = some (.int .i64 (F k).kind) := by rw [← hW, World.cell?_alloc_past _ _ _ (by simp), World.cell?_alloc_at _ _ _ _ rfl]; rfl
      have k2 : W.cell? ⟨wr.heap.size + 1, 0, none⟩ = some (.string (V k).field) := by rw [← hW, World.cell?_alloc_at _ _ _ _ (by simp)]; rfl
      have k3 : W.cell? ⟨wr.heap.size + 1, 1, none⟩ = some (.string (V k).text) := by rw [← hW, World.cell?_alloc_at _ _ _ _ (by simp)]; rfl
      have k4 : W.cell? ⟨wr.heap.size + 1, 2, none⟩ = some (.slice ka (V k).nk (V k).kcap) := by rw [← hW, World.cell?_alloc_at _ _ _ _ (by simp)]; rfl
      have HBW : Hid (Below w.heap.size w W) := hw.trans (hB.mono hw.size)
      have HKW : Hid (KeysAt W ka (V k).nk (V k).K) := hK.kept hB
      have hx : Hid (wrongVal (F k) (V k) = valOf ((V k).field.toList == (F k).name.toList) (F k).kind (V k).nk (V k).text.size (idx (V k).nk (fun i => !named ((V k).K i)))) := by unfold Hid wrongVal; rw [← eqs_eq]
      have hbadv : Hid (∀ e : Int, wrongVal (F k) (V k) = e → e ≠ 0 → wrongVals nv F nv V = e) := fun e he h0 => by
        rw [hfin0.out, fault_hit (g := fun j => wrongVal (F j) (V j)) hlt (by show wrongVal (F k) (V k) ≠ 0; rw [he]; exact h0) hb.out]
        exact he
      have hgo : Hid (wrongVal (F k) (V k) = 0 → ∀ i, i < k + 1 → wrongVal (F i) (V i) = 0) := fun h0 i hi => by
        rcases Nat.lt_succ_iff_lt_or_eq.1 hi with h | h
        · exact hb i h
        · rw [h]; exact h0
      clear hK hw hB hy
      go_wp2_with fail
      · have hfin : Hid (wrongVals nv F nv V = 6) := hbadv.out 6 (by rw [hx.out, val_6 ‹_›]) (by decide)
        go_ret
        exact ⟨by rw [hfin.out]; rfl, HBW.out⟩
      · have hk : (F k).kind = 1 := ‹(F k).kind = 1›
        have h2 : (V k).nk = 0 := ‹_›
        have h3 : 40 < ((V k).text.size : Int) := ‹_›
        have hfin : Hid (wrongVals nv F nv V = 3) := hbadv.out 3 (by rw [hx.out, val_3 ‹_› (by omega) (by omega) (by omega)]) (by decide)
        go_ret
        exact ⟨by rw [hfin.out]; rfl, HBW.out⟩
      · have hk : (F k).kind = 1 := ‹(F k).kind = 1›
        have h2 : (V k).nk = 0 := ‹_›
        have h3 : ((V k).text.size : Int) ≤ 40 := ‹_›
        have hx2 : Hid (wrongVal (F k) (V k) = if 0 ≤ idx (V k).nk (fun i => !named ((V k).K i)) then 6 else 0) := by unfold Hid; rw [hx.out, val_x ‹_› (by omega) (by omega) (by omega)]
        have hq : Hid (∀ j, j < k + 1 → wrongVal (F j) (V j) = 0) := hgo.out (by
          rw [hx2.out, if_neg]
          have : idx (V k).nk (fun i => !named ((V k).K i)) < 0 := idx_neg.2 fun i hi => by omega
          omega)
        refine wp_loop_rounds 1 ?_
        rw [rounds_succ]
        go_wp2_with fail
        go_roundw
        case rel => exact ⟨k + 1, by omega, by go_num, hq, HBW.out⟩
        case measure => simp [intOf]; omega
      · have hk : (F k).kind = 1 := ‹(F k).kind = 1›
        have h2 : ¬ (V k).nk = 0 := ‹_›
        have hfin : Hid (wrongVals nv F nv V = 7) := hbadv.out 7 (by rw [hx.out, val_7 ‹_› (.inl ⟨hk, by omega⟩)]) (by decide)
        go_ret
        exact ⟨by rw [hfin.out]; rfl, HBW.out⟩
      · have hk : ¬ (F k).kind = 1 := ‹_›
        have hfin : Hid (wrongVals nv F nv V = 7) := hbadv.out 7 (by rw [hx.out, val_7 ‹_› (.inr ⟨hk, someText ‹_›⟩)]) (by decide)
        go_ret
        exact ⟨by rw [hfin.out]; rfl, HBW.out⟩
      · have hk : ¬ (F k).kind = 1 := ‹_›
        have h2 := noText hk ‹_›
        have hk2 : (F k).kind = 2 := ‹_›
        have h3 : 20 < ((V k).nk : Int) ∨ 1 < ((V k).nk : Int) := ‹_›
        have hfin : Hid (wrongVals nv F nv V = 4) := hbadv.out 4 (by rw [hx.out, val_4 ‹_› (by omega) (by omega)]) (by decide)
        go_ret
        exact ⟨by rw [hfin.out]; rfl, HBW.out⟩
      · have hk : ¬ (F k).kind = 1 := ‹_›
        have h2 := noText hk ‹_›
        have h3 : 40 < ((V k).text.size : Int) := ‹_›
        omega
      · have hk : ¬ (F k).kind = 1 := ‹_›
        have h2 := noText hk ‹_›
        have hk2 : (F k).kind = 2 := ‹_›
        have h3 : ((V k).nk : Int) ≤ 20 ∧ ((V k).nk : Int) ≤ 1 := ‹_›
        have hx2 : Hid (wrongVal (F k) (V k) = if 0 ≤ idx (V k).nk (fun i => !named ((V k).K i)) then 6 else 0) := by unfold Hid; rw [hx.out, val_x ‹_› (by omega) (by omega) (by omega)]
        clear k0 k1 k2 k3 k4 v0 v1 v2 f0 f1 f2 h2
        go_loopw [78] (fun i w3 => ∃ j : Nat, j ≤ (V k).nk ∧ i = .int .i64 j ∧ Hid (∀ i, i < j → named ((V k).K i) = true) ∧ Below W.heap.size W w3) (fun i _ => (V k).nk - (intOf i).toNat)
        case atStart => exact ⟨0, Nat.zero_le _, rfl, (fun j hj => absurd hj (Nat.not_lt_zero _)), Below.refl _ _⟩
        case round =>
          obtain ⟨j, hj, rfl, hbj, hw3⟩ := hrel
          by_cases hjlt : j < (V k).nk
          · obtain ⟨b3, o3, ha, q0, hs⟩ := (HKW.out.kept hw3).2 j hjlt
            subst ha
            have hjlt' : (j : Int) < ((V k).nk : Int) := by omega
            have hj0 : (0 : Int) ≤ (j : Int) := by omega
            have hcN := refNamed_any ((V k).K j) wr hs
            have HW3 : Hid (Below W.heap.size W wr) := hw3
            clear hw3 hs
            cases h1 : named ((V k).K j)
            · have hfin : Hid (wrongVals nv F nv V = 6) := hbadv.out 6 (by
                rw [hx2.out, if_pos]
                have : ¬ idx (V k).nk (fun i => !named ((V k).K i)) < 0 := by
                  rw [idx_neg]; intro hh; have := hh j hjlt; simp [h1] at this
                omega) (by decide)
              rw [h1] at hcN
              go_wp2_with fail
              refine hcN.mono ?_
              clear hcN
              rintro e w4 ⟨rfl, hw4⟩
              have HW4 : Hid (Below w.heap.size w w4) := (HBW.out.trans (HW3.out.mono HBW.out.size)).trans (hw4.mono (HBW.out.trans (HW3.out.mono HBW.out.size)).size)
              clear hw4 q0
              go_wp2_with fail
              go_ret
              exact ⟨by rw [hfin.out]; rfl, HW4.out⟩
            · have hq : Hid (∀ i, i < j + 1 → named ((V k).K i) = true) := fun i hi => by
                rcases Nat.lt_succ_iff_lt_or_eq.1 hi with h | h
                · exact hbj i h
                · rw [h]; exact h1
              rw [h1] at hcN
              go_wp2_with fail
              refine hcN.mono ?_
              clear hcN
              rintro e w4 ⟨rfl, hw4⟩
              have HW4 : Hid (Below W.heap.size W w4) := HW3.out.trans (hw4.mono HW3.out.size)
              clear hw4 q0
              go_wp2_with fail
              go_roundw
              case rel => exact ⟨j + 1, by omega, by go_num, hq, HW4.out⟩
              case measure => simp [intOf]; omega
          · have hq : Hid (∀ j, j < k + 1 → wrongVal (F j) (V j) = 0) := hgo.out (by
              rw [hx2.out, if_neg]
              have : idx (V k).nk (fun i => !named ((V k).K i)) < 0 := idx_neg.2 fun i hi => by rw [hbj.out i (by omega)]; rfl
              omega)
            have HW4 : Hid (Below w.heap.size w wr) := HBW.out.trans (hw3.mono HBW.out.size)
            go_wp2_with fail
            go_roundw
            case rel => exact ⟨k + 1, by omega, by go_num, hq, HW4.out⟩
            case measure => simp [intOf]; omega
      · have hk : ¬ (F k).kind = 1 := ‹¬ (F k).kind = 1›
        have h2 := noText hk ‹_›
        have h3 : 40 < ((V k).text.size : Int) := ‹_›
        omega
      · have hk : ¬ (F k).kind = 1 := ‹¬ (F k).kind = 1›
        have h2 := noText hk ‹_›
        have hk2 : ¬ (F k).kind = 2 := ‹_›
        have h3 : ((V k).nk : Int) ≤ 20 := ‹((V k).nk : Int) ≤ 20›
        have hx2 : Hid (wrongVal (F k) (V k) = if 0 ≤ idx (V k).nk (fun i => !named ((V k).K i)) then 6 else 0) := by unfold Hid; rw [hx.out, val_x ‹_› (by omega) (by omega) (by omega)]
        clear k0 k1 k2 k3 k4 v0 v1 v2 f0 f1 f2 h2
        go_loopw [78] (fun i w3 => ∃ j : Nat, j ≤ (V k).nk ∧ i = .int .i64 j ∧ Hid (∀ i, i < j → named ((V k).K i) = true) ∧ Below W.heap.size W w3) (fun i _ => (V k).nk - (intOf i).toNat)
        case atStart => exact ⟨0, Nat.zero_le _, rfl, (fun j hj => absurd hj (Nat.not_lt_zero _)), Below.refl _ _⟩
        case round =>
          obtain ⟨j, hj, rfl, hbj, hw3⟩ := hrel
          by_cases hjlt : j < (V k).nk
          · obtain ⟨b3, o3, ha, q0, hs⟩ := (HKW.out.kept hw3).2 j hjlt
            subst ha
            have hjlt' : (j : Int) < ((V k).nk : Int) := by omega
            have hj0 : (0 : Int) ≤ (j : Int) := by omega
            have hcN := refNamed_any ((V k).K j) wr hs
            have HW3 : Hid (Below W.heap.size W wr) := hw3
            clear hw3 hs
            cases h1 : named ((V k).K j)
            · have hfin : Hid (wrongVals nv F nv V = 6) := hbadv.out 6 (by
                rw [hx2.out, if_pos]
                have : ¬ idx (V k).nk (fun i => !named ((V k).K i)) < 0 := by
                  rw [idx_neg]; intro hh; have := hh j hjlt; simp [h1] at this
                omega) (by decide)
              rw [h1] at hcN
              go_wp2_with fail
              refine hcN.mono ?_
              clear hcN
              rintro e w4 ⟨rfl, hw4⟩
              have HW4 : Hid (Below w.heap.size w w4) := (HBW.out.trans (HW3.out.mono HBW.out.size)).trans (hw4.mono (HBW.out.trans (HW3.out.mono HBW.out.size)).size)
              clear hw4 q0
              go_wp2_with fail
              go_ret
              exact ⟨by rw [hfin.out]; rfl, HW4.out⟩
            · have hq : Hid (∀ i, i < j + 1 → named ((V k).K i) = true) := fun i hi => by
                rcases Nat.lt_succ_iff_lt_or_eq.1 hi with h | h
                · exact hbj i h
                · rw [h]; exact h1
              rw [h1] at hcN
              go_wp2_with fail
              refine hcN.mono ?_
              clear hcN
              rintro e w4 ⟨rfl, hw4⟩
              have HW4 : Hid (Below W.heap.size W w4) := HW3.out.trans (hw4.mono HW3.out.size)
              clear hw4 q0
              go_wp2_with fail
              go_roundw
              case rel => exact ⟨j + 1, by omega, by go_num, hq, HW4.out⟩
              case measure => simp [intOf]; omega
          · have hq : Hid (∀ j, j < k + 1 → wrongVal (F j) (V j) = 0) := hgo.out (by
              rw [hx2.out, if_neg]
              have : idx (V k).nk (fun i => !named ((V k).K i)) < 0 := idx_neg.2 fun i hi => by rw [hbj.out i (by omega)]; rfl
              omega)
            have HW4 : Hid (Below w.heap.size w wr) := HBW.out.trans (hw3.mono HBW.out.size)
            go_wp2_with fail
            go_roundw
            case rel => exact ⟨k + 1, by omega, by go_num, hq, HW4.out⟩
            case measure => simp [intOf]; omega
      · have hk : ¬ (F k).kind = 1 := ‹_›
        have h2 := noText hk ‹_›
        have h3 : 20 < ((V k).nk : Int) := ‹_›
        have hfin : Hid (wrongVals nv F nv V = 4) := hbadv.out 4 (by rw [hx.out, val_4 ‹_› (by omega) (by omega)]) (by decide)
        go_ret
        exact ⟨by rw [hfin.out]; rfl, HBW.out⟩
    · have hfin : Hid (wrongVals nv F nv V = 0) := by unfold Hid; rw [hfin0.out, fault_none fun j hj => hb.out j (by omega)]
      go_wp2_with fail
      go_ret
      exact ⟨by rw [hfin.out]; rfl, hw⟩
end Go.Proofs.YtjjggefmmeminabGreat
