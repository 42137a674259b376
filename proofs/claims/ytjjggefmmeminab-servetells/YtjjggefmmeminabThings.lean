/-
  The contracts of schema.wrongThing and schema.Things.
-/
import Derived.Test.YtjjggefmmeminabVals
namespace Go.Proofs.Ytjjggefmmeminab
open Go.RowKit Go.Sort Go.PlainAid

theorem Try.e129 : ∀ args w, (callFunc 129 args).run Try.prog w = .ok (.enter 129 args) w := enters_of Try.func129 (by kernel_rfl) rfl
theorem Try.e103 : ∀ args w, (callFunc 103 args).run Try.prog w = .ok (.enter 103 args) w := enters_of Try.func103 (by kernel_rfl) rfl

set_option maxHeartbeats 400000 in
theorem wrongThing1_any (fa : Option Addr) (nf fcap b1 b2 j : Nat) (F : Nat → LField) (x : LThing) (w : World) (hF : FieldsAt w fa nf F) (hV : ValsAt w x.va x.nv x.V) (hj : j < nf) (hjv : j < x.nv)
    (c1 : w.cell? ⟨b1, 0, none⟩ = some (.slice fa nf fcap)) (c2 : w.cell? ⟨b2, 2, none⟩ = some (.slice x.va x.nv x.vcap)) :
    Calls Try.prog 129 #[.int .i64 (j : Int), .pointer (some ⟨b1, 0, none⟩), .pointer (some ⟨b2, 0, none⟩)] w fun e w' => e = .returned (.int .i64 (wrongVal (F j) (x.V j))) ∧ Below w.heap.size w w' := by
  have hj' : (j : Int) < (nf : Int) := by omega
  have hjv' : (j : Int) < (x.nv : Int) := by omega
  have hj0 : (0 : Int) ≤ (j : Int) := by omega
  have hnf : nf ≤ 9223372036854775807 := hF.1
  have hnv : x.nv ≤ 9223372036854775807 := hV.1
  obtain ⟨b, o, rfl, f0, f1, f2, -⟩ := hF.2 j hj
  obtain ⟨b', o', hva, v0, v1, v2, -, -, -, hK⟩ := hV.2 j hjv
  rw [hva] at c2
  clear hF hV hva
  have k1 := cell_regrown c1
  have k2 := cell_regrown c2
  have k3 := cell_regrown f0
  have k4 := cell_regrown f1
  have k5 := cell_regrown f2
  have k6 := cell_regrown v0
  have k7 := cell_regrown v1
  have k8 := cell_regrown v2
  have cF : ∀ d os, Calls Try.prog 130 #[.agg #[.string (F j).name, .int .i64 (F j).kind, .string (F j).type], .agg #[.string (x.V j).field, .string (x.V j).text, .slice (x.V j).ka (x.V j).nk (x.V j).kcap]] (grow (redrawn w d) os) fun e w'' => e = .returned (.int .i64 (wrongVal (F j) (x.V j))) ∧ ∃ p : Regrown, w'' = grow (redrawn w p.d) p.os := fun d os => Calls.regrown_of (wrongVal_any (F j) (x.V j) _ (hK.kept (below_regrown w d os)))
  clear hK c1 c2 f0 f1 f2 v0 v1 v2
  go_enter Try.func129, Try.ntmps129
  go_wp2
  refine wp_region_quiet_below (by kernel_rfl) (by kernel_rfl) ?_
  repeat (go_big_quiet_step (first | exact cF _ _))
  refine wpQuiet_nil ?_
  intro _ hw'
  obtain ⟨⟨dq, osq⟩, hw''⟩ := hw'
  subst hw''
  go_wp2
  go_ret
  exact ⟨rfl, below_regrown w dq osq⟩

/-- What is wrong with a thing. -/
def wrongThing (n : Nat) (T : Nat → LType) (X : Nat → LThing) (i : Nat) : Int :=
  if find n T (X i).type < 0 then 5
  else if !named (X i).key || hasThing i X (X i).type (X i).key then 6
  else if (X i).nv ≠ (T (find n T (X i).type).toNat).nf then 4
  else (fault (T (find n T (X i).type).toNat).nf (fun j => wrongVal ((T (find n T (X i).type).toNat).F j) ((X i).V j))).1
/-- What is wrong with things, and with which of them. -/
def wrongThings (n : Nat) (T : Nat → LType) (m : Nat) (X : Nat → LThing) : Int × Int := if 60 < m then (4, 0) else fault m (wrongThing n T X)

set_option maxHeartbeats 1000000 in
theorem wrongThing_any (a xa : Option Addr) (n cap m xcap i : Nat) (T : Nat → LType) (X : Nat → LThing) (w : World) (hT : TypesAt w a n T) (hX : ThingsAt w xa m X) (hxcap : m ≤ xcap) (hi : i < m) :
    Calls Try.prog 104 #[.slice a n cap, .slice xa m xcap, .int .i64 (i : Int)] w fun e w' => e = .returned (.int .i64 (wrongThing n T X i)) ∧ Below w.heap.size w w' := by
  have hmf : ∀ (fn : Fn) (first cap : Array Value) (w : World), (Instr.makeFunc fn first cap).run Try.prog w = .ok (.func fn first cap) w := fun _ _ _ _ => rfl
  have hm : m ≤ 9223372036854775807 := hX.1
  have hn : n ≤ 9223372036854775807 := hT.1
  obtain ⟨b, o, rfl, x0, x1, x2, -, hs0, hs1, hV⟩ := hX.2 i hi
  have HT : Hid (TypesAt w a n T) := hT
  have HX : Hid (ThingsAt w (some ⟨b, o, none⟩) m X) := hX
  have HV : Hid (ValsAt w (X i).va (X i).nv (X i).V) := hV
  clear hT hX hV
  have hi' : (i : Int) < (m : Int) := by omega
  have hi0 : (0 : Int) ≤ (i : Int) := by omega
  have hic : (i : Int) ≤ (xcap : Int) := by omega
  generalize hW : w.alloc (Obj.cells #[Value.string (X i).type, Value.string (X i).key, Value.slice (X i).va (X i).nv (X i).vcap] 90) = W
  have hB : Below w.heap.size w W := by rw [← hW]; exact below1 _ _
  have hz : w.heap.size < W.heap.size := by rw [← hW]; simp
  have k0 : W.cell? ⟨w.heap.size, 0, none⟩ = some (.string (X i).type) := by rw [← hW, World.cell?_alloc_at _ _ _ _ rfl]; rfl
  have k1 : W.cell? ⟨w.heap.size, 1, none⟩ = some (.string (X i).key) := by rw [← hW, World.cell?_alloc_at _ _ _ _ rfl]; rfl
  have k2 : W.cell? ⟨w.heap.size, 2, none⟩ = some (.slice (X i).va (X i).nv (X i).vcap) := by rw [← hW, World.cell?_alloc_at _ _ _ _ rfl]; rfl
  go_enter Try.func104, Try.ntmps104
  go_wp2_with fail
  clear hW x0 x1 x2
  refine (find_any a n cap T (X i).type W (HT.out.kept hB)).mono ?_
  rintro e w1 ⟨rfl, hw1⟩
  have hB1 : Below w.heap.size w w1 := hB.trans (hw1.mono hB.size)
  have hz1 : w.heap.size < w1.heap.size := Nat.lt_of_lt_of_le hz hw1.size
  have l0 := keptCell hw1 k0
  have l1 := keptCell hw1 k1
  have l2 := keptCell hw1 k2
  clear k0 k1 k2 hB hz hw1
  by_cases h5 : find n T (X i).type < 0
  · have hfin : Hid (wrongThing n T X i = 5) := by unfold wrongThing Hid; rw [if_pos h5]
    go_wp2_with fail
    go_ret
    exact ⟨by rw [hfin.out]; rfl, hB1⟩
  obtain ⟨t, ht, hft⟩ : ∃ t : Nat, t < n ∧ find n T (X i).type = (t : Int) := by
    rcases idx_cases n (fun j => eqs (T j).name (X i).type) with ⟨h, _⟩ | ⟨t, ht, h, _⟩
    · exact absurd (show find n T (X i).type < 0 by unfold find; omega) h5
    · exact ⟨t, ht, h⟩
  have hfin : Hid (wrongThing n T X i = if !named (X i).key || hasThing i X (X i).type (X i).key then 6 else if (X i).nv ≠ (T t).nf then 4 else (fault (T t).nf (fun j => wrongVal ((T t).F j) ((X i).V j))).1) := by
    unfold wrongThing Hid; rw [if_neg h5, hft, Int.toNat_natCast]
  rw [hft]
  clear hft h5
  have ht0 : ¬ (t : Int) < 0 := by omega
  have ht' : (t : Int) < (n : Int) := by omega
  go_wp2_with fail
  have r0 := cell_regrown l0
  have r1 := cell_regrown l1
  have cN : ∀ d os, Calls Try.prog 35 #[.string (X i).key] (grow (redrawn w1 d) os) fun e w'' => e = .returned (.bool (named (X i).key)) ∧ ∃ p : Regrown, w'' = grow (redrawn w1 p.d) p.os := fun d os => Calls.regrown_of (named_any _ _ hs1)
  have cH : ∀ d os, Calls Try.prog 128 #[.slice (some ⟨b, o, none⟩) i xcap, .string (X i).type, .string (X i).key] (grow (redrawn w1 d) os) fun e w'' => e = .returned (.bool (hasThing i X (X i).type (X i).key)) ∧ ∃ p : Regrown, w'' = grow (redrawn w1 p.d) p.os := fun d os => Calls.regrown_of (hasThing_any _ _ _ X _ _ _ (((HX.out.less (Nat.le_of_lt hi)).kept hB1).kept (below_regrown w1 d os)))
  have hend : Hid (∀ d os, Below w.heap.size w (grow (redrawn w1 d) os)) := fun d os => hB1.trans ((below_regrown w1 d os).mono hB1.size)
  cases h1 : named (X i).key
  · have hfin1 : Hid (wrongThing n T X i = 6) := by unfold Hid; rw [hfin.out]; simp [h1]
    rw [h1] at cN
    refine wp_region_quiet_below (by kernel_rfl) (by kernel_rfl) ?_
    repeat (go_big_quiet_step (first | exact cN _ _ | exact cH _ _))
    refine wpQuiet_nil ?_
    intro _ hw'
    obtain ⟨⟨dq, osq⟩, hw''⟩ := hw'
    subst hw''
    go_wp2_with fail
    go_ret
    exact ⟨by rw [hfin1.out]; rfl, hend.out _ _⟩
  cases h2 : hasThing i X (X i).type (X i).key
  case true =>
    have hfin1 : Hid (wrongThing n T X i = 6) := by unfold Hid; rw [hfin.out]; simp [h2]
    rw [h1] at cN
    rw [h2] at cH
    refine wp_region_quiet_below (by kernel_rfl) (by kernel_rfl) ?_
    repeat (go_big_quiet_step (first | exact cN _ _ | exact cH _ _))
    refine wpQuiet_nil ?_
    intro _ hw'
    obtain ⟨⟨dq, osq⟩, hw''⟩ := hw'
    subst hw''
    go_wp2_with fail
    go_ret
    exact ⟨by rw [hfin1.out]; rfl, hend.out _ _⟩
  case false =>
    have hfin1 : Hid (wrongThing n T X i = if (X i).nv ≠ (T t).nf then 4 else (fault (T t).nf (fun j => wrongVal ((T t).F j) ((X i).V j))).1) := by unfold Hid; rw [hfin.out]; simp [h1, h2]
    rw [h1] at cN
    rw [h2] at cH
    clear h1 h2 hfin
    refine wp_region_quiet_below (by kernel_rfl) (by kernel_rfl) ?_
    repeat (go_big_quiet_step (first | exact cN _ _ | exact cH _ _))
    refine wpQuiet_nil ?_
    intro _ hw'
    obtain ⟨⟨dq, osq⟩, hw''⟩ := hw'
    have hB2 : Below w1.heap.size w1 (grow (redrawn w1 dq) osq) := below_regrown w1 dq osq
    rw [← hw''] at hB2
    clear hw'' cN cH r0 r1 hend
    rename_i w2
    have hB3 : Below w.heap.size w w2 := hB1.trans (hB2.mono hB1.size)
    have hz2 : w.heap.size < w2.heap.size := Nat.lt_of_lt_of_le hz1 hB2.size
    have m2 := keptCell hB2 l2
    clear l0 l1 l2 hB1 hB2 hz1
    have HT2 : Hid (TypesAt w2 a n T) := HT.out.kept hB3
    obtain ⟨b2, o2, ha, -, t1, -, -, hF⟩ := HT2.out.2 t ht
    have HF : Hid (FieldsAt w2 (T t).fa (T t).nf (T t).F) := hF
    have HV2 : Hid (ValsAt w2 (X i).va (X i).nv (X i).V) := HV.out.kept hB3
    have hnf : (T t).nf ≤ 9223372036854775807 := hF.1
    clear hF HT2 HT HX HV
    subst ha
    by_cases h4 : (X i).nv = (T t).nf
    · have h4b : (((X i).nv : Int) != ((T t).nf : Int)) = false := by simp [h4]
      have hfin2 : Hid (wrongThing n T X i = (fault (T t).nf (fun j => wrongVal ((T t).F j) ((X i).V j))).1) := by unfold Hid; rw [hfin1.out, if_neg (by omega)]
      have h4h : Hid ((X i).nv = (T t).nf) := h4
      clear h4
      go_wp2_with fail
      refine (firstFault_any (T t).nf hnf 129 _ (fun j => wrongVal ((T t).F j) ((X i).V j)) _ Try.e129 ?_).mono ?_
      · intro j hj w3 hw3
        have hB4 : Below w2.heap.size w2 w3 := (below1 w2 (.cells #[.slice (T t).fa (T t).nf (T t).fcap] 97)).trans (hw3.mono (below1 w2 _).size)
        refine wrongThing1_any (T t).fa (T t).nf (T t).fcap _ _ j (T t).F (X i) w3 (HF.out.kept hB4) (HV2.out.kept hB4) hj (by rw [h4h.out]; exact hj) (keptCell hw3 ?_) (keptCell hB4 m2)
        rw [World.cell?_alloc_at _ _ _ _ rfl]; rfl
      rintro e w3 ⟨rfl, hw3⟩
      have hB4 : Below w2.heap.size w2 w3 := (below1 w2 (.cells #[.slice (T t).fa (T t).nf (T t).fcap] 97)).trans (hw3.mono (below1 w2 _).size)
      have hB5 : Below w.heap.size w w3 := hB3.trans (hB4.mono hB3.size)
      clear hw3 hB4
      generalize fault (T t).nf (fun j => wrongVal ((T t).F j) ((X i).V j)) = r at *
      unfold faultV
      have hfd := field0_run r.1 r.2
      go_wp2_with fail
      go_ret
      exact ⟨by rw [hfin2.out]; rfl, hB5⟩
    · have h4b : (((X i).nv : Int) != ((T t).nf : Int)) = true := by rw [bne_iff_ne]; omega
      have hfin2 : Hid (wrongThing n T X i = 4) := by unfold Hid; rw [hfin1.out, if_pos h4]
      clear h4
      go_wp2_with fail
      go_ret
      exact ⟨by rw [hfin2.out]; rfl, hB3.trans ((below1 w2 _).mono hB3.size)⟩

set_option maxHeartbeats 400000 in
theorem things1_any (a xa : Option Addr) (n cap m xcap i b1 b2 : Nat) (T : Nat → LType) (X : Nat → LThing) (w : World) (hT : TypesAt w a n T) (hX : ThingsAt w xa m X) (hxcap : m ≤ xcap) (hi : i < m)
    (c1 : w.cell? ⟨b1, 0, none⟩ = some (.slice a n cap)) (c2 : w.cell? ⟨b2, 0, none⟩ = some (.slice xa m xcap)) :
    Calls Try.prog 103 #[.int .i64 (i : Int), .pointer (some ⟨b1, 0, none⟩), .pointer (some ⟨b2, 0, none⟩)] w fun e w' => e = .returned (.int .i64 (wrongThing n T X i)) ∧ Below w.heap.size w w' := by
  have hc := wrongThing_any a xa n cap m xcap i T X w hT hX hxcap hi
  clear hT hX
  go_enter Try.func103, Try.ntmps103
  go_wp2_with fail
  refine hc.mono ?_
  rintro e w1 ⟨rfl, hw1⟩
  go_wp2_with fail
  go_ret
  exact ⟨rfl, hw1⟩

set_option maxHeartbeats 400000 in
theorem things_any (a xa : Option Addr) (n cap m xcap : Nat) (T : Nat → LType) (X : Nat → LThing) (w : World) (hT : TypesAt w a n T) (hX : ThingsAt w xa m X) (hxcap : m ≤ xcap) :
    Calls Try.prog 78 #[.slice a n cap, .slice xa m xcap] w fun e w' => e = .returned (faultV (wrongThings n T m X)) ∧ Below w.heap.size w w' := by
  have hmf : ∀ (fn : Fn) (first cap : Array Value) (w : World), (Instr.makeFunc fn first cap).run Try.prog w = .ok (.func fn first cap) w := fun _ _ _ _ => rfl
  have hm : m ≤ 9223372036854775807 := hX.1
  have HT : Hid (TypesAt w a n T) := hT
  have HX : Hid (ThingsAt w xa m X) := hX
  clear hT hX
  by_cases h : 60 < (m : Int)
  · have hfin : Hid (wrongThings n T m X = (4, 0)) := by unfold wrongThings Hid; rw [if_pos (by omega)]
    go_enter Try.func78, Try.ntmps78
    go_wp2_with fail
    exact bodyPost_ret (v := .agg #[.int .i64 4, .int .i64 0]) (by simp [results, Try.results78, go_sem]) rfl ⟨by rw [hfin.out]; rfl, below3 _ _ _ _⟩
  · have hfin : Hid (wrongThings n T m X = fault m (wrongThing n T X)) := by unfold wrongThings Hid; rw [if_neg (by omega)]
    go_enter Try.func78, Try.ntmps78
    go_wp2_with fail
    generalize hW : (((w.alloc (Obj.cells #[Value.slice a n cap] 70)).alloc (Obj.cells #[Value.slice xa m xcap] 72)).alloc (Obj.cells #[Value.int IntKind.i64 0, Value.int IntKind.i64 0] 30)) = W
    have hB : Below w.heap.size w W := by rw [← hW]; exact below3 _ _ _ _
    have hz : w.heap.size + 2 < W.heap.size := by rw [← hW]; simp
    have c0 : W.cell? ⟨w.heap.size, 0, none⟩ = some (.slice a n cap) := by rw [← hW, World.cell?_alloc_past _ _ _ (by simp; omega), World.cell?_alloc_past _ _ _ (by simp), World.cell?_alloc_at _ _ _ _ rfl]; rfl
    have c1 : W.cell? ⟨w.heap.size + 1, 0, none⟩ = some (.slice xa m xcap) := by rw [← hW, World.cell?_alloc_past _ _ _ (by simp), World.cell?_alloc_at _ _ _ _ (by simp)]; rfl
    have r0 : W.cell? ⟨w.heap.size + 2, 0, none⟩ = some (.int .i64 0) := by rw [← hW, World.cell?_alloc_at _ _ _ _ (by simp)]; rfl
    have r1 : W.cell? ⟨w.heap.size + 2, 1, none⟩ = some (.int .i64 0) := by rw [← hW, World.cell?_alloc_at _ _ _ _ (by simp)]; rfl
    have f0 : W.frozen? ⟨w.heap.size + 2, 0, none⟩ = false := by rw [← hW]; exact World.frozen?_alloc_at _ _ _ _ (by simp)
    have f1 : W.frozen? ⟨w.heap.size + 2, 1, none⟩ = false := by rw [← hW]; exact World.frozen?_alloc_at _ _ _ _ (by simp)
    clear hW
    refine (firstFault_any m hm 103 _ (wrongThing n T X) _ Try.e103 ?_).mono ?_
    · intro i hi w1 hw1
      have hB1 := hB.trans (hw1.mono hB.size)
      exact things1_any a xa n cap m xcap i _ _ T X w1 (HT.out.kept hB1) (HX.out.kept hB1) hxcap hi (keptCell hw1 c0) (keptCell hw1 c1)
    rintro e w1 ⟨rfl, hw1⟩
    have s0 := keptCell hw1 r0
    have s1 := keptCell hw1 r1
    have g0 := (hw1.frozen (p := ⟨w.heap.size + 2, 0, none⟩) hz).trans f0
    have g1 := (hw1.frozen (p := ⟨w.heap.size + 2, 1, none⟩) hz).trans f1
    have hB1 : Below w.heap.size w w1 := hB.trans (hw1.mono hB.size)
    have hz1 : w.heap.size + 2 < w1.heap.size := Nat.lt_of_lt_of_le hz hw1.size
    clear hw1 c0 c1 r0 r1 f0 f1 hB hz
    generalize fault m (wrongThing n T X) = r at *
    unfold faultV
    go_wp2_with fail
    exact bodyPost_ret (v := .agg #[.int .i64 r.1, .int .i64 r.2]) (by simp [results, Try.results78, go_sem, s0, s1]) rfl ⟨by rw [hfin.out]; rfl, (hB1.setCell (by simp; omega) _).setCell (by simp; omega) _⟩
end Go.Proofs.Ytjjggefmmeminab
