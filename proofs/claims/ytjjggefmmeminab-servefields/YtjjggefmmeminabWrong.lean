/-
  The contracts of schema.wrongTypeName, wrongField, wrongFields and Wrong: what is wrong with a schema, and with which of its types.
-/
import Derived.Test.YtjjggefmmeminabNamed
import Derived.Test.YtjjggefmmeminabFind
import Derived.Test.YtjjggefmmeminabFault
import Derived.Handy
namespace Go.Proofs.Ytjjggefmmeminab
open Go.RowKit Go.Sort Go.PlainAid

def wrongTypeName (T : Nat → LType) (i : Nat) : Int := if !named (T i).name || decide (0 ≤ find i T (T i).name) then 6 else 0

set_option maxHeartbeats 400000 in
theorem wrongTypeName_any (a : Option Addr) (n cap i : Nat) (T : Nat → LType) (w : World) (hT : TypesAt w a n T) (hcap : n ≤ cap) (hi : i < n) :
    Calls Try.prog 119 #[.slice a n cap, .int .i64 (i : Int)] w fun e w' => e = .returned (.int .i64 (wrongTypeName T i)) ∧ Below w.heap.size w w' := by
  have hn : n ≤ 9223372036854775807 := hT.1
  obtain ⟨b, o, rfl, hc, -, -, hs, -⟩ := hT.2 i hi
  have k0 := cell_regrown hc
  have cN : ∀ d os, Calls Try.prog 35 #[.string (T i).name] (grow (redrawn w d) os) fun e w'' => e = .returned (.bool (named (T i).name)) ∧ ∃ p : Regrown, w'' = grow (redrawn w p.d) p.os := fun d os => Calls.regrown_of (named_any _ _ hs)
  have cF : ∀ d os, Calls Try.prog 41 #[.slice (some ⟨b, o, none⟩) i cap, .string (T i).name] (grow (redrawn w d) os) fun e w'' => e = .returned (.int .i64 (find i T (T i).name)) ∧ ∃ p : Regrown, w'' = grow (redrawn w p.d) p.os := fun d os => Calls.regrown_of (find_any _ _ _ T _ _ ((hT.less (Nat.le_of_lt hi)).kept (below_regrown w d os)))
  clear hT hc hs
  have hi' : (i : Int) < (n : Int) := by omega
  have hi0 : (0 : Int) ≤ (i : Int) := by omega
  have hic : (i : Int) ≤ (cap : Int) := by omega
  cases h1 : named (T i).name
  · have hfin : Hid (wrongTypeName T i = 6) := by unfold wrongTypeName Hid; simp [h1]
    go_enter Try.func119, Try.ntmps119
    go_wp2
    refine wp_region_quiet_below (by kernel_rfl) (by kernel_rfl) ?_
    rw [h1] at cN
    repeat (go_big_quiet_step (first | exact cN _ _ | exact cF _ _))
    refine wpQuiet_nil ?_
    intro _ hw'
    obtain ⟨⟨dq, osq⟩, hw''⟩ := hw'
    subst hw''
    go_wp2
    go_ret
    exact ⟨by rw [hfin.out]; rfl, below_regrown w dq osq⟩
  · by_cases h2 : 0 ≤ find i T (T i).name
    · have hfin : Hid (wrongTypeName T i = 6) := by unfold wrongTypeName Hid; simp [h1, h2]
      go_enter Try.func119, Try.ntmps119
      go_wp2
      refine wp_region_quiet_below (by kernel_rfl) (by kernel_rfl) ?_
      rw [h1] at cN
      repeat (go_big_quiet_step (first | exact cN _ _ | exact cF _ _))
      refine wpQuiet_nil ?_
      intro _ hw'
      obtain ⟨⟨dq, osq⟩, hw''⟩ := hw'
      subst hw''
      go_wp2
      go_ret
      exact ⟨by rw [hfin.out]; rfl, below_regrown w dq osq⟩
    · have hfin : Hid (wrongTypeName T i = 0) := by unfold wrongTypeName Hid; simp [h1, h2]
      go_enter Try.func119, Try.ntmps119
      go_wp2
      refine wp_region_quiet_below (by kernel_rfl) (by kernel_rfl) ?_
      rw [h1] at cN
      repeat (go_big_quiet_step (first | exact cN _ _ | exact cF _ _))
      refine wpQuiet_nil ?_
      intro _ hw'
      obtain ⟨⟨dq, osq⟩, hw''⟩ := hw'
      subst hw''
      go_wp2
      go_ret
      exact ⟨by rw [hfin.out]; rfl, below_regrown w dq osq⟩

/-- What is wrong with a field's kind and type. -/
def fitOf (k : Int) (ty : ByteArray) (f : Int) : Int := if k = 1 then (if ty.size = 0 then 0 else 7) else if k = 2 ∨ k = 3 then (if f < 0 then 5 else 0) else 1
theorem empty_size {s : ByteArray} : s.toList.isEmpty = true ↔ s.size = 0 := by rw [List.isEmpty_iff]; exact toList_nil
theorem fit_7 {k : Int} {ty : ByteArray} {f : Int} (h : (k == 1) = true) (h' : (!ty.toList.isEmpty) = true) : fitOf k ty f = 7 := by
  have h1 : k = 1 := by simpa using h
  have h2 : ¬ ty.size = 0 := fun e => by rw [empty_size.2 e] at h'; simp at h'
  unfold fitOf; simp [h1, h2]
theorem fit_0 {k : Int} {ty : ByteArray} {f : Int} (h : (k == 1) = true) (h' : (!ty.toList.isEmpty) = false) : fitOf k ty f = 0 := by
  have h1 : k = 1 := by simpa using h
  have h2 : ty.size = 0 := empty_size.1 (by simpa using h')
  unfold fitOf; simp [h1, h2]
theorem fit_find {k : Int} {ty : ByteArray} {f : Int} (h' : (k == 2) = true ∨ (k == 3) = true) : fitOf k ty f = if f < 0 then 5 else 0 := by
  have h2 : k = 2 ∨ k = 3 := by simpa using h'
  unfold fitOf; rw [if_neg (by omega), if_pos h2]
theorem fit_1 {k : Int} {ty : ByteArray} {f : Int} (h : (k == 1) = false) (h' : (k == 2) = false) (h'' : (k == 3) = false) : fitOf k ty f = 1 := by
  have h1 : ¬ k = 1 := by simpa using h
  have h2 : ¬ k = 2 := by simpa using h'
  have h3 : ¬ k = 3 := by simpa using h''
  unfold fitOf; rw [if_neg h1, if_neg (by omega)]
def wrongField (n : Nat) (T : Nat → LType) (F : Nat → LField) (i : Nat) : Int :=
  if !named (F i).name || decide (0 ≤ fieldIdx i F (F i).name) then 6 else fitOf (F i).kind (F i).type (find n T (F i).type)

set_option maxHeartbeats 400000 in
theorem wrongField_any (a fa : Option Addr) (n cap nf fcap i : Nat) (T : Nat → LType) (F : Nat → LField) (w : World) (hT : TypesAt w a n T) (hF : FieldsAt w fa nf F) (hcap : nf ≤ fcap) (hi : i < nf) :
    Calls Try.prog 145 #[.slice a n cap, .slice fa nf fcap, .int .i64 (i : Int)] w fun e w' => e = .returned (.int .i64 (wrongField n T F i)) ∧ Below w.heap.size w w' := by
  have hnf : nf ≤ 9223372036854775807 := hF.1
  obtain ⟨b, o, rfl, hc0, hc1, hc2, hs0, hs2, -⟩ := hF.2 i hi
  have HT : Hid (TypesAt w a n T) := hT
  have HF : Hid (FieldsAt w (some ⟨b, o, none⟩) nf F) := hF
  clear hT hF
  have hi' : (i : Int) < (nf : Int) := by omega
  have hi0 : (0 : Int) ≤ (i : Int) := by omega
  have hic : (i : Int) ≤ (fcap : Int) := by omega
  generalize hW : w.alloc (Obj.cells #[Value.string (F i).name, Value.int IntKind.i64 (F i).kind, Value.string (F i).type] 138) = W
  have hB : Below w.heap.size w W := by rw [← hW]; exact below1 _ _
  have k0 : W.cell? ⟨w.heap.size, 0, none⟩ = some (.string (F i).name) := by rw [← hW, World.cell?_alloc_at _ _ _ _ rfl]; rfl
  have k1 : W.cell? ⟨w.heap.size, 1, none⟩ = some (.int .i64 (F i).kind) := by rw [← hW, World.cell?_alloc_at _ _ _ _ rfl]; rfl
  have k2 : W.cell? ⟨w.heap.size, 2, none⟩ = some (.string (F i).type) := by rw [← hW, World.cell?_alloc_at _ _ _ _ rfl]; rfl
  have r0 := cell_regrown k0
  have r1 := cell_regrown k1
  have r2 := cell_regrown k2
  have cN : ∀ d os, Calls Try.prog 35 #[.string (F i).name] (grow (redrawn W d) os) fun e w'' => e = .returned (.bool (named (F i).name)) ∧ ∃ p : Regrown, w'' = grow (redrawn W p.d) p.os := fun d os => Calls.regrown_of (named_any _ _ hs0)
  have cF : ∀ d os, Calls Try.prog 73 #[.slice (some ⟨b, o, none⟩) i fcap, .string (F i).name] (grow (redrawn W d) os) fun e w'' => e = .returned (.int .i64 (fieldIdx i F (F i).name)) ∧ ∃ p : Regrown, w'' = grow (redrawn W p.d) p.os := fun d os => Calls.regrown_of (field_any _ _ _ F _ _ (((HF.out.less (Nat.le_of_lt hi)).kept hB).kept (below_regrown W d os)))
  have cT : ∀ d os, Calls Try.prog 41 #[.slice a n cap, .string (F i).type] (grow (redrawn W d) os) fun e w'' => e = .returned (.int .i64 (find n T (F i).type)) ∧ Below (grow (redrawn W d) os).heap.size (grow (redrawn W d) os) w'' := fun d os => find_any _ _ _ T _ _ ((HT.out.kept hB).kept (below_regrown W d os))
  have hend : ∀ d os, Below w.heap.size w (grow (redrawn W d) os) := fun d os => hB.trans ((below_regrown W d os).mono hB.size)
  have hend2 : ∀ d os w2, Below (grow (redrawn W d) os).heap.size (grow (redrawn W d) os) w2 → Below w.heap.size w w2 := fun d os w2 h => (hend d os).trans (h.mono (hend d os).size)
  clear k0 k1 k2 HT HF hB hs0 hs2
  have HE : Hid (∀ d os, Below w.heap.size w (grow (redrawn W d) os)) := hend
  have HE2 : Hid (∀ d os w2, Below (grow (redrawn W d) os).heap.size (grow (redrawn W d) os) w2 → Below w.heap.size w w2) := hend2
  clear hend hend2
  cases h1 : named (F i).name
  · have hfin : Hid (wrongField n T F i = 6) := by unfold wrongField Hid; simp [h1]
    go_enter Try.func145, Try.ntmps145
    go_wp2
    clear hW
    refine wp_region_quiet_below (by kernel_rfl) (by kernel_rfl) ?_
    rw [h1] at cN
    repeat (go_big_quiet_step (first | exact cN _ _ | exact cF _ _))
    refine wpQuiet_nil ?_
    intro _ hw'
    obtain ⟨⟨dq, osq⟩, hw''⟩ := hw'
    subst hw''
    go_wp2_with fail
    go_ret
    exact ⟨by rw [hfin.out]; rfl, HE.out _ _⟩
  by_cases h2 : 0 ≤ fieldIdx i F (F i).name
  · have hfin : Hid (wrongField n T F i = 6) := by unfold wrongField Hid; simp [h1, h2]
    go_enter Try.func145, Try.ntmps145
    go_wp2
    clear hW
    refine wp_region_quiet_below (by kernel_rfl) (by kernel_rfl) ?_
    rw [h1] at cN
    repeat (go_big_quiet_step (first | exact cN _ _ | exact cF _ _))
    refine wpQuiet_nil ?_
    intro _ hw'
    obtain ⟨⟨dq, osq⟩, hw''⟩ := hw'
    subst hw''
    go_wp2_with fail
    go_ret
    exact ⟨by rw [hfin.out]; rfl, HE.out _ _⟩
  have hfin : Hid (wrongField n T F i = fitOf (F i).kind (F i).type (find n T (F i).type)) := by unfold wrongField Hid; simp [h1, h2]
  go_enter Try.func145, Try.ntmps145
  go_wp2
  clear hW
  refine wp_region_quiet_below (by kernel_rfl) (by kernel_rfl) ?_
  rw [h1] at cN
  repeat (go_big_quiet_step (first | exact cN _ _ | exact cF _ _))
  refine wpQuiet_nil ?_
  intro _ hw'
  obtain ⟨⟨dq, osq⟩, hw''⟩ := hw'
  subst hw''
  go_wp2_with fail
  · go_ret
    exact ⟨by rw [hfin.out, fit_7 ‹_› ‹_›]; rfl, HE.out _ _⟩
  · go_ret
    exact ⟨by rw [hfin.out, fit_0 ‹_› ‹_›]; rfl, HE.out _ _⟩
  · have hfin2 : Hid (wrongField n T F i = if find n T (F i).type < 0 then 5 else 0) := by unfold Hid; rw [hfin.out, fit_find (.inl ‹_›)]
    refine (cT _ _).mono ?_
    rintro e w2 ⟨rfl, hw2⟩
    have hw3 := HE2.out _ _ _ hw2
    clear hw2
    by_cases h5 : find n T (F i).type < 0
    · go_wp2_with fail
      go_ret
      exact ⟨by rw [hfin2.out, if_pos h5]; rfl, hw3⟩
    · go_wp2_with fail
      go_ret
      exact ⟨by rw [hfin2.out, if_neg (by omega)]; rfl, hw3⟩
  · have hfin2 : Hid (wrongField n T F i = if find n T (F i).type < 0 then 5 else 0) := by unfold Hid; rw [hfin.out, fit_find (.inr ‹_›)]
    refine (cT _ _).mono ?_
    rintro e w2 ⟨rfl, hw2⟩
    have hw3 := HE2.out _ _ _ hw2
    clear hw2
    by_cases h5 : find n T (F i).type < 0
    · go_wp2_with fail
      go_ret
      exact ⟨by rw [hfin2.out, if_pos h5]; rfl, hw3⟩
    · go_wp2_with fail
      go_ret
      exact ⟨by rw [hfin2.out, if_neg (by omega)]; rfl, hw3⟩
  · go_ret
    exact ⟨by rw [hfin.out, fit_1 ‹_› ‹_› ‹_›]; rfl, HE.out _ _⟩
end Go.Proofs.Ytjjggefmmeminab
