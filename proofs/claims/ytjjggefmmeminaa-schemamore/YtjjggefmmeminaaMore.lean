/-
  The walk of stitchlaw1.SchemaMore: it answers true, and keeps what is there.
-/
import Derived.Test.YtjjggefmmeminaaMorePlain
import Derived.Test.YtjjggefmmeminaaAlive
import Derived.Test.YtjjggefmmeminaaApp
import Derived.Test.YtjjggefmmeminaaChBase
namespace Go.Proofs.Ytjjggefmmeminaa
open Go.RowKit Go.Sort Go.PlainAid

set_option maxRecDepth 100000 in
set_option maxHeartbeats 1000000 in
theorem more_any (a xa : Option Addr) (n cap m xcap : Nat) (T : Nat → LType) (X : Nat → LThing) (name : ByteArray) (w : World) (hT : TypesAt w a n T) (hX : ThingsAt w xa m X) (hcap : n ≤ cap) (hxcap : m ≤ xcap) (hs : Small name) :
    Calls Try.prog 5 #[.slice a n cap, .slice xa m xcap, .string name] w fun e w' => e = .returned (.bool true) ∧ Below w.heap.size w w' := by
  have hfd := field0_run
  have hm : m ≤ 9223372036854775807 := hX.1
  have HT : Hid (TypesAt w a n T) := hT
  have HX : Hid (ThingsAt w xa m X) := hX
  clear hT hX
  go_enter Try.func5, Try.ntmps5
  go_wp2_with fail
  refine (alive_any w).mono ?_
  rintro e w1 ⟨rfl, hB1⟩
  go_wp2_with fail
  refine (wrong_any a n cap T w1 (HT.out.kept hB1) hcap).mono ?_
  rintro e w2 ⟨rfl, hw2⟩
  have hB2 := hB1.trans (hw2.mono hB1.size)
  clear hw2 hB1
  unfold faultV
  by_cases h1 : (wrongS n T).1 = 0
  case neg =>
    have h1b : ((wrongS n T).1 != 0) = true := by simpa using h1
    clear h1
    generalize wrongS n T = r at *
    go_wp2_with fail
    go_ret
    exact ⟨rfl, hB2⟩
  have h1b : ((wrongS n T).1 != 0) = false := by simpa using h1
  have H1 : Hid ((wrongS n T).1 = 0) := h1
  clear h1
  by_cases h2 : 8 ≤ (n : Int)
  · generalize wrongS n T = r at *
    go_wp2_with fail
    go_ret
    exact ⟨rfl, hB2⟩
  go_wp2_with fail
  refine (named_any name w2 hs).mono ?_
  rintro e w3 ⟨rfl, hw3⟩
  have hB3 := hB2.trans (hw3.mono hB2.size)
  clear hw3 hB2
  cases h3 : named name
  · go_wp2_with fail
    go_ret
    exact ⟨rfl, hB3⟩
  go_wp2_with fail
  refine (find_any a n cap T name w3 (HT.out.kept hB3)).mono ?_
  rintro e w4 ⟨rfl, hw4⟩
  have hB4 := hB3.trans (hw4.mono hB3.size)
  clear hw4 hB3
  by_cases h4 : 0 ≤ find n T name
  · go_wp2_with fail
    go_ret
    exact ⟨rfl, hB4⟩
  have H3 : Hid (named name = true) := h3
  have H4 : Hid (find n T name < 0) := by unfold Hid; omega
  clear h3
  obtain ⟨i0, hi, hz0, hz1, hz2⟩ := info_parts' Try.info34
  have hT4 : TypesAt w4 a n T := HT.out.kept hB4
  have hT5 : TypesAt (w4.alloc (.cells #[] 34)) a n T := hT4.kept (below1 _ _)
  have HT5 : Hid (TypesAt (w4.alloc (.cells #[] 34)) a n T) := hT5
  have hown0 : (w4.alloc (.cells #[] 34)).ownsRow w4.heap.size 34 2 (.slice (some ⟨w4.heap.size, 0, none⟩) 0 0) 0 [] := World.ownsRow_made w4 #[] 0 (Nat.le_refl _) (by decide) rfl
  have HO : Hid ((w4.alloc (.cells #[] 34)).ownsRow w4.heap.size 34 2 (.slice (some ⟨w4.heap.size, 0, none⟩) 0 0) 0 []) := hown0
  clear hT4 hT5 hown0
  go_wp2_with (at_builtin; refine wpList_append_any _ rfl _ _ 22 rfl w4.heap.size 34 i0 _ 2 40 Try.underlying22 hi hz0 hz1 hz2 rfl (by decide) _ 0 [] rfl HO.out a n cap (typeCells T n) rfl (typeCells_length _ _) HT5.out.news (fun h => by have h5 := HT5.out; rw [h] at h5; exact h5.nil) (typeCells_one _ _) (by unfold maxLen; omega) (by omega) (by simp) ?_)
  intro v1 w5 hown1 hg1 hat1
  have hB5 : Below w4.heap.size w4 w5 := (below1 w4 _).grown hg1 (by simp) (fun k hk => by simp [Value.ownBlock] at hk; omega)
  have HO1 : Hid ((w5.alloc (.cells #[.string name, .slice none 0 0] 34)).ownsRow w4.heap.size 34 2 v1 n (typeCells T n)) := hown1.alloc _
  have HL1 : Hid (∀ k, v1.ownBlock = some k → w4.heap.size ≤ k) := fun k hk => (hown1.lt k hk).1
  have hz5 : w4.heap.size ≤ w5.heap.size := hB5.size
  clear hown1 hg1 hat1 HO HT5
  go_wp2_with (at_builtin; refine wpList_append_any _ rfl _ _ 22 rfl w4.heap.size 34 i0 _ 2 40 Try.underlying22 hi hz0 hz1 hz2 rfl (by decide) _ n (typeCells T n) rfl HO1.out (some ⟨w5.heap.size, 0, none⟩) 1 1 [.string name, .slice none 0 0] rfl rfl ?c1 (fun h => by cases h) ?c2 (by unfold maxLen; omega) (by omega) (by simp; omega) ?_)
  case c1 =>
    intro ad had j u hu
    cases had
    rw [WideShapes.add_plain]
    match j, hu with
    | 0, hu => simp at hu; subst hu; rw [World.cell?_alloc_at _ _ _ _ rfl]; rfl
    | 1, hu => simp at hu; subst hu; rw [World.cell?_alloc_at _ _ _ _ rfl]; rfl
  case c2 =>
    intro u hu
    simp at hu
    rcases hu with rfl | rfl <;> rfl
  intro v2 w6 hown2 hg2 _
  have hB6 : Below w4.heap.size w4 w6 := (hB5.trans ((below1 w5 _).mono hz5)).grown hg2 (by simp; omega) (fun k hk => HL1.out k hk)
  have hB7 : Below w.heap.size w w6 := hB4.trans (hB6.mono hB4.size)
  have hT6 : TypesAt w6 a n T := HT.out.kept hB7
  have hrow : w6.ownsRow w4.heap.size 34 2 v2 (n + 1) (typeCells (more n T name) (n + 1)) := by
    rw [typeCells_succ, typeCells_congr (T' := T) (fun i hi => more_lt hi)]
    unfold more
    rw [if_neg (Nat.lt_irrefl _)]
    exact hown2
  obtain ⟨a2, cap2, rfl, hcap2, hT2⟩ := owns_types hrow (by unfold maxLen; omega) (fun i hi => by
    by_cases hin : i < n
    · rw [more_lt hin]
      obtain ⟨b, o, -, -, -, q1, q2, q3⟩ := hT6.2 i hin
      exact ⟨q1, q2, q3⟩
    · unfold more
      rw [if_neg hin]
      exact ⟨Nat.le_refl 0, hs, Nat.zero_le _, fun j hj => absurd hj (Nat.not_lt_zero _)⟩)
  have HT2 : Hid (TypesAt w6 a2 (n + 1) (more n T name)) := hT2
  have HR : Hid ((wrongS (n + 1) (more n T name)).1 = 0) := right_more H1.out (by omega) H3.out H4.out
  have HF : Hid (find (n + 1) (more n T name) name = (n : Int)) := find_more_new H4.out
  clear hT2 hrow hT6 hown2 hg2 hB6 hB5 hB4 HO1 HL1 hz5 h1b
  go_wp2_with fail
  refine (wrong_any a2 (n + 1) cap2 (more n T name) w6 HT2.out hcap2).mono ?_
  rintro e w7 ⟨rfl, hw7⟩
  have hB8 := hB7.trans (hw7.mono hB7.size)
  have HT3 : Hid (TypesAt w7 a2 (n + 1) (more n T name)) := HT2.out.kept hw7
  clear hw7 HT2 hB7
  unfold faultV
  have hr0 := HR.out
  generalize wrongS (n + 1) (more n T name) = r at *
  have hr1 : (r.1 != 0) = false := by simpa using hr0
  clear hr0 HR
  go_wp2_with fail
  have hcf := find_any a2 (n + 1) cap2 (more n T name) name w7 HT3.out
  rw [HF.out] at hcf
  refine hcf.mono ?_
  clear hcf
  rintro e w8 ⟨rfl, hw8⟩
  have hB9 := hB8.trans (hw8.mono hB8.size)
  have HT4 : Hid (TypesAt w8 a2 (n + 1) (more n T name)) := HT3.out.kept hw8
  clear hw8 HT3 hB8
  go_wp2_with fail
  refine (things_any a xa n cap m xcap T X w8 (HT.out.kept hB9) (HX.out.kept hB9) hxcap).mono ?_
  rintro e w9 ⟨rfl, hw9⟩
  have hB10 := hB9.trans (hw9.mono hB9.size)
  have HT5 : Hid (TypesAt w9 a2 (n + 1) (more n T name)) := HT4.out.kept hw9
  clear hw9 HT4 hB9
  unfold faultV
  by_cases h7 : (wrongThings n T m X).1 = 0
  case neg =>
    have h7b : ((wrongThings n T m X).1 != 0) = true := by simpa using h7
    clear h7
    generalize wrongThings n T m X = r at *
    go_wp2_with fail
    go_ret
    exact ⟨rfl, hB10⟩
  have h7b : ((wrongThings n T m X).1 != 0) = false := by simpa using h7
  have HM : Hid ((wrongThings (n + 1) (more n T name) m X).1 = 0) := things_more h7
  clear h7
  generalize wrongThings n T m X = r at *
  go_wp2_with fail
  refine (things_any a2 xa (n + 1) cap2 m xcap (more n T name) X w9 HT5.out (HX.out.kept hB10) hxcap).mono ?_
  rintro e w10 ⟨rfl, hw10⟩
  have hB11 := hB10.trans (hw10.mono hB10.size)
  clear hw10
  unfold faultV
  have hr0 := HM.out
  generalize wrongThings (n + 1) (more n T name) m X = r2 at *
  have hr1 : (r2.1 == 0) = true := by simpa using hr0
  clear hr0 HM
  go_wp2_with fail
  go_ret
  exact ⟨rfl, hB11⟩
end Go.Proofs.Ytjjggefmmeminaa
