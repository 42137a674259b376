/-
  The contracts of schema.wrongVal and hasThing.
-/
import Derived.Test.YtjjggefmmeminabSchema
namespace Go.Proofs.Ytjjggefmmeminab
open Go.RowKit Go.Sort Go.PlainAid

theorem Try.e153 : ∀ args w, (callFunc 153 args).run Try.prog w = .ok (.enter 153 args) w := enters_of Try.func153 (by kernel_rfl) rfl
theorem Try.e152 : ∀ args w, (callFunc 152 args).run Try.prog w = .ok (.enter 152 args) w := enters_of Try.func152 (by kernel_rfl) rfl

def sameThing (X : Nat → LThing) (typ key : ByteArray) (i : Nat) : Bool := eqs (X i).type typ && eqs (X i).key key
/-- Is there a thing of that type and key? -/
def hasThing (n : Nat) (X : Nat → LThing) (typ key : ByteArray) : Bool := decide (0 ≤ idx n (sameThing X typ key))

set_option maxHeartbeats 400000 in
theorem hasThing1_any (b o cap n i b1 b2 b3 : Nat) (typ key s1 s2 : ByteArray) (w : World) (hi : i < n) (c1 : w.cell? ⟨b1, 0, none⟩ = some (.slice (some ⟨b, o, none⟩) n cap)) (c2 : w.cell? ⟨b2, 0, none⟩ = some (.string typ)) (c3 : w.cell? ⟨b3, 0, none⟩ = some (.string key))
    (d1 : w.cell? ⟨b, o + i * 3, none⟩ = some (.string s1)) (d2 : w.cell? ⟨b, o + i * 3 + 1, none⟩ = some (.string s2)) :
    Calls Try.prog 152 #[.int .i64 (i : Int), .pointer (some ⟨b1, 0, none⟩), .pointer (some ⟨b2, 0, none⟩), .pointer (some ⟨b3, 0, none⟩)] w fun e w' => e = .returned (.bool (eqs s1 typ && eqs s2 key)) ∧ Below w.heap.size w w' := by
  have hi' : (i : Int) < (n : Int) := by omega
  have hi0 : (0 : Int) ≤ (i : Int) := by omega
  rw [← eqs_eq, ← eqs_eq]
  cases h1 : (s1.toList == typ.toList)
  all_goals
    go_enter Try.func152, Try.ntmps152
    go_wp2
    go_quiet (fail)
    go_wp2
    go_ret
    exact ⟨rfl, below_drewN _ _⟩

set_option maxHeartbeats 400000 in
theorem hasThing_any (a : Option Addr) (n cap : Nat) (X : Nat → LThing) (typ key : ByteArray) (w : World) (hX : ThingsAt w a n X) :
    Calls Try.prog 128 #[.slice a n cap, .string typ, .string key] w fun e w' => e = .returned (.bool (hasThing n X typ key)) ∧ Below w.heap.size w w' := by
  have hmf : ∀ (fn : Fn) (first cap : Array Value) (w : World), (Instr.makeFunc fn first cap).run Try.prog w = .ok (.func fn first cap) w := fun _ _ _ _ => rfl
  have HX : Hid (ThingsAt w a n X) := hX
  have hn : n ≤ 9223372036854775807 := hX.1
  clear hX
  unfold hasThing
  go_enter Try.func128, Try.ntmps128
  go_wp2_with fail
  refine (index_any n hn 152 _ (sameThing X typ key) _ Try.e152 ?_).mono ?_
  · intro i hi w1 hw1
    obtain ⟨b, o, rfl, hc, hk, -⟩ := HX.out.2 i hi
    have hb := (below3 w (.cells #[.slice (some ⟨b, o, none⟩) n cap] 72) (.cells #[.string typ] 9) (.cells #[.string key] 9)).trans (hw1.mono (below3 w _ _ _).size)
    refine hasThing1_any b o cap n i _ _ _ typ key (X i).type (X i).key w1 hi (keptCell hw1 ?_) (keptCell hw1 ?_) (keptCell hw1 ?_) (keptCell hb hc) (keptCell hb hk)
    · rw [World.cell?_alloc_past _ _ _ (by simp; omega), World.cell?_alloc_past _ _ _ (by simp), World.cell?_alloc_at _ _ _ _ rfl]; rfl
    · rw [World.cell?_alloc_past _ _ _ (by simp), World.cell?_alloc_at _ _ _ _ (by simp)]; rfl
    · rw [World.cell?_alloc_at _ _ _ _ (by simp)]; rfl
  · rintro e w1 ⟨rfl, hw1⟩
    go_wp2
    go_ret
    exact ⟨rfl, (below3 w _ _ _).trans (hw1.mono (below3 w _ _ _).size)⟩

/-- What is wrong with a val: e: it is of that field; k: the field's kind; n: how many keys; t: how many bytes of text; x: the first key that is no name. -/
def valOf (e : Bool) (k : Int) (n t : Nat) (x : Int) : Int :=
  if e = false then 6 else if (k = 1 ∧ 0 < n) ∨ (k ≠ 1 ∧ t ≠ 0) then 7 else if 20 < n ∨ (k = 2 ∧ 1 < n) then 4 else if 40 < t then 3 else if 0 ≤ x then 6 else 0
def wrongVal (f : LField) (v : LVal) : Int := valOf (eqs v.field f.name) f.kind v.nk v.text.size (idx v.nk (fun i => !named (v.K i)))
theorem val_6 {e : Bool} {k : Int} {n t : Nat} {x : Int} (h : (!e) = true) : valOf e k n t x = 6 := by
  have h' : e = false := by simpa using h
  unfold valOf; rw [if_pos h']
theorem val_7 {e : Bool} {k : Int} {n t : Nat} {x : Int} (h : (!e) = false) (h1 : (k = 1 ∧ 0 < n) ∨ (k ≠ 1 ∧ t ≠ 0)) : valOf e k n t x = 7 := by
  have h' : ¬ e = false := by simpa using h
  unfold valOf; rw [if_neg h', if_pos h1]
theorem val_4 {e : Bool} {k : Int} {n t : Nat} {x : Int} (h : (!e) = false) (h1 : ¬ ((k = 1 ∧ 0 < n) ∨ (k ≠ 1 ∧ t ≠ 0))) (h2 : 20 < n ∨ (k = 2 ∧ 1 < n)) : valOf e k n t x = 4 := by
  have h' : ¬ e = false := by simpa using h
  unfold valOf; rw [if_neg h', if_neg h1, if_pos h2]
theorem val_3 {e : Bool} {k : Int} {n t : Nat} {x : Int} (h : (!e) = false) (h1 : ¬ ((k = 1 ∧ 0 < n) ∨ (k ≠ 1 ∧ t ≠ 0))) (h2 : ¬ (20 < n ∨ (k = 2 ∧ 1 < n))) (h3 : 40 < t) : valOf e k n t x = 3 := by
  have h' : ¬ e = false := by simpa using h
  unfold valOf; rw [if_neg h', if_neg h1, if_neg h2, if_pos h3]
theorem val_x {e : Bool} {k : Int} {n t : Nat} {x : Int} (h : (!e) = false) (h1 : ¬ ((k = 1 ∧ 0 < n) ∨ (k ≠ 1 ∧ t ≠ 0))) (h2 : ¬ (20 < n ∨ (k = 2 ∧ 1 < n))) (h3 : ¬ 40 < t) : valOf e k n t x = if 0 ≤ x then 6 else 0 := by
  have h' : ¬ e = false := by simpa using h
  unfold valOf; rw [if_neg h', if_neg h1, if_neg h2, if_neg h3]
theorem noText {k : Int} {s : ByteArray} (h : ¬ k = 1) (h' : (!k == 1) = false ∨ (!s.toList.isEmpty) = false) : s.size = 0 := by
  rcases h' with h' | h'
  · exact absurd (by simpa using h') h
  · exact empty_size.1 (by simpa using h')
theorem someText {k : Int} {s : ByteArray} (h' : (!k == 1) = true ∧ (!s.toList.isEmpty) = true) : ¬ s.size = 0 := fun e => by
  have := h'.2; rw [empty_size.2 e] at this; simp at this

set_option maxHeartbeats 400000 in
theorem wrongVal1_any (b1 b o cap n i : Nat) (s : ByteArray) (w : World) (hi : i < n) (hs : Small s) (c1 : w.cell? ⟨b1, 2, none⟩ = some (.slice (some ⟨b, o, none⟩) n cap)) (c2 : w.cell? ⟨b, o + i, none⟩ = some (.string s)) :
    Calls Try.prog 153 #[.int .i64 (i : Int), .pointer (some ⟨b1, 0, none⟩)] w fun e w' => e = .returned (.bool (!named s)) ∧ Below w.heap.size w w' := by
  have hi' : (i : Int) < (n : Int) := by omega
  have hi0 : (0 : Int) ≤ (i : Int) := by omega
  have hc := named_any s w hs
  go_enter Try.func153, Try.ntmps153
  go_wp2_with fail
  refine hc.mono ?_
  rintro e w1 ⟨rfl, hw1⟩
  go_wp2_with fail
  go_ret
  exact ⟨rfl, hw1⟩

set_option maxHeartbeats 1000000 in
theorem wrongVal_any (f : LField) (v : LVal) (w : World) (hv : KeysAt w v.ka v.nk v.K) :
    Calls Try.prog 130 #[.agg #[.string f.name, .int .i64 f.kind, .string f.type], .agg #[.string v.field, .string v.text, .slice v.ka v.nk v.kcap]] w fun e w' => e = .returned (.int .i64 (wrongVal f v)) ∧ Below w.heap.size w w' := by
  have hmf : ∀ (fn : Fn) (first cap : Array Value) (w : World), (Instr.makeFunc fn first cap).run Try.prog w = .ok (.func fn first cap) w := fun _ _ _ _ => rfl
  have HV : Hid (KeysAt w v.ka v.nk v.K) := hv
  have hn : v.nk ≤ 9223372036854775807 := hv.1
  clear hv
  have hend : Hid (∀ w0 w1 : World, (∃ o o', w0 = (w.alloc o).alloc o') → Below w0.heap.size w0 w1 → Below w.heap.size w w1) := by
    rintro w0 w1 ⟨o, o', rfl⟩ hw1
    exact (below2 w o o').trans (hw1.mono (below2 w o o').size)
  have hcall : Hid (∀ (k : Int), Calls Try.prog 65 #[.int .i64 (v.nk : Int), .func (.func 153) #[] #[.pointer (some ⟨w.heap.size + 1, 0, none⟩)]] ((w.alloc (.cells #[.string f.name, .int .i64 k, .string f.type] 138)).alloc (.cells #[.string v.field, .string v.text, .slice v.ka v.nk v.kcap] 56)) fun e w' => e = .returned (.int .i64 (idx v.nk (fun i => !named (v.K i)))) ∧ Below w.heap.size w w') := by
    intro k
    refine (index_any v.nk hn 153 _ (fun i => !named (v.K i)) _ Try.e153 ?_).mono ?_
    · intro i hi w1 hw1
      obtain ⟨b, o, ha, hc, hs⟩ := HV.out.2 i hi
      refine wrongVal1_any _ b o v.kcap v.nk i (v.K i) w1 hi hs (keptCell hw1 ?_) (keptCell (hend.out _ _ ⟨_, _, rfl⟩ hw1) hc)
      rw [World.cell?_alloc_at _ _ _ _ (by simp), ← ha]; rfl
    · rintro e w1 ⟨rfl, hw1⟩
      exact ⟨rfl, hend.out _ _ ⟨_, _, rfl⟩ hw1⟩
  have hx : Hid (wrongVal f v = valOf (v.field.toList == f.name.toList) f.kind v.nk v.text.size (idx v.nk (fun i => !named (v.K i)))) := by unfold Hid wrongVal; rw [← eqs_eq]
  clear hend HV
  go_enter Try.func130, Try.ntmps130
  go_wp2_with fail
  · go_ret
    exact ⟨by rw [hx.out, val_6 ‹_›]; rfl, below2 _ _ _⟩
  · go_ret
    exact ⟨by rw [hx.out, val_7 ‹_› (.inl ⟨‹_›, ‹0 < v.nk›⟩)]; rfl, below2 _ _ _⟩
  · have hk : f.kind = 1 := ‹f.kind = 1›
    have h2 : ¬ 0 < v.nk := ‹_›
    have h3 : 40 < (v.text.size : Int) := ‹_›
    go_ret
    exact ⟨by rw [hx.out, val_3 ‹_› (by omega) (by omega) (by omega)]; rfl, below2 _ _ _⟩
  · have hk : f.kind = 1 := ‹f.kind = 1›
    have h2 : ¬ 0 < v.nk := ‹_›
    have h3 : (v.text.size : Int) ≤ 40 := ‹_›
    have hx2 : Hid (wrongVal f v = if 0 ≤ idx v.nk (fun i => !named (v.K i)) then 6 else 0) := by unfold Hid; rw [hx.out, val_x ‹_› (by omega) (by omega) (by omega)]
    refine (hcall.out _).mono ?_
    rintro e w1 ⟨rfl, hw1⟩
    by_cases h9 : 0 ≤ idx v.nk (fun i => !named (v.K i))
    · go_wp2_with fail
      go_ret
      exact ⟨by rw [hx2.out, if_pos h9]; rfl, hw1⟩
    · go_wp2_with fail
      go_ret
      exact ⟨by rw [hx2.out, if_neg (by omega)]; rfl, hw1⟩
  · have hk : ¬ f.kind = 1 := ‹_›
    go_ret
    exact ⟨by rw [hx.out, val_7 ‹_› (.inr ⟨hk, someText ‹_›⟩)]; rfl, below2 _ _ _⟩
  · have hk : ¬ f.kind = 1 := ‹_›
    have h2 := noText hk ‹_›
    have h3 : 20 < (v.nk : Int) := ‹_›
    go_ret
    exact ⟨by rw [hx.out, val_4 ‹_› (by omega) (by omega)]; rfl, below2 _ _ _⟩
  · have hk : ¬ f.kind = 1 := ‹_›
    have h2 := noText hk ‹_›
    have hk2 : f.kind = 2 := ‹_›
    have h3 : 1 < (v.nk : Int) := ‹_›
    go_ret
    exact ⟨by rw [hx.out, val_4 ‹_› (by omega) (by omega)]; rfl, below2 _ _ _⟩
  · have hk : ¬ f.kind = 1 := ‹_›
    have h2 := noText hk ‹_›
    have h3 : 40 < (v.text.size : Int) := ‹_›
    omega
  · have hk : ¬ f.kind = 1 := ‹_›
    have h2 := noText hk ‹_›
    have hk2 : f.kind = 2 := ‹_›
    have h3 : (v.nk : Int) ≤ 1 := ‹_›
    have hx2 : Hid (wrongVal f v = if 0 ≤ idx v.nk (fun i => !named (v.K i)) then 6 else 0) := by unfold Hid; rw [hx.out, val_x ‹_› (by omega) (by omega) (by omega)]
    refine (hcall.out _).mono ?_
    rintro e w1 ⟨rfl, hw1⟩
    by_cases h9 : 0 ≤ idx v.nk (fun i => !named (v.K i))
    · go_wp2_with fail
      go_ret
      exact ⟨by rw [hx2.out, if_pos h9]; rfl, hw1⟩
    · go_wp2_with fail
      go_ret
      exact ⟨by rw [hx2.out, if_neg (by omega)]; rfl, hw1⟩
  · have hk : ¬ f.kind = 1 := ‹¬ f.kind = 1›
    have h2 := noText hk ‹_›
    have h3 : 40 < (v.text.size : Int) := ‹_›
    omega
  · have hk : ¬ f.kind = 1 := ‹¬ f.kind = 1›
    have h2 := noText hk ‹_›
    have hk2 : ¬ f.kind = 2 := ‹_›
    have h3 : (v.nk : Int) ≤ 20 := ‹_›
    have hx2 : Hid (wrongVal f v = if 0 ≤ idx v.nk (fun i => !named (v.K i)) then 6 else 0) := by unfold Hid; rw [hx.out, val_x ‹_› (by omega) (by omega) (by omega)]
    refine (hcall.out _).mono ?_
    rintro e w1 ⟨rfl, hw1⟩
    by_cases h9 : 0 ≤ idx v.nk (fun i => !named (v.K i))
    · go_wp2_with fail
      go_ret
      exact ⟨by rw [hx2.out, if_pos h9]; rfl, hw1⟩
    · go_wp2_with fail
      go_ret
      exact ⟨by rw [hx2.out, if_neg (by omega)]; rfl, hw1⟩
end Go.Proofs.Ytjjggefmmeminab
