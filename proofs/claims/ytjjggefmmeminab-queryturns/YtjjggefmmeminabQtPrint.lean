/-
  The contracts of query.pickText, listText and Print.
-/
import Derived.Test.YtjjggefmmeminabQtPlain
import Derived.Test.YtjjggefmmeminabQyWrong
import Derived.Test.YtjjggefmmeminabQyShelf
import Derived.Test.YtjjggefmmeminabRowm
namespace Go.Proofs.Ytjjggefmmeminab
open Go.RowKit Go.Sort Go.PlainAid

def TextOk (d : Nat) : Prop := ∀ (a : Option Addr) (cap : Nat) (L : List (Pick d)) (w : World), PicksAt w d a L → L.length ≤ cap → (textL d L).size ≤ 100000 →
    Calls Try.prog 31 #[.slice a L.length cap] w fun e w' => e = .returned (.string (textL d L)) ∧ Below w.heap.size w w'

set_option maxRecDepth 100000 in
set_option maxHeartbeats 1000000 in
theorem pickText_any (d : Nat) (ih : TextOk d) (p : Pick (d + 1)) (A : Option Addr) (C : Nat) (w : World) (hP : PicksAt w d A (subs p)) (hC : (subs p).length ≤ C) (hz : (textP (textL d) p).size ≤ 100000) :
    Calls Try.prog 58 #[.agg #[.string (nick p), .string (pfield p), .slice A (subs p).length C]] w fun e w' => e = .returned (.string (textP (textL d) p)) ∧ Below w.heap.size w w' := by
  have hee := emp_eq (nick p)
  have HT : Hid (textP (textL d) p = if (subs p).isEmpty then (if emp (nick p) then pfield p else nick p ++ ⟨#[58]⟩ ++ pfield p) else (if emp (nick p) then pfield p else nick p ++ ⟨#[58]⟩ ++ pfield p) ++ textL d (subs p)) := rfl
  have hB := below1 w (Obj.cells #[.string (nick p), .string (pfield p), .slice A (subs p).length C] 63)
  have hnp : (if emp (nick p) then pfield p else nick p ++ ⟨#[58]⟩ ++ pfield p).size ≤ 100000 := by
    rw [HT.out] at hz
    by_cases h : (subs p).isEmpty = true
    · rw [if_pos h] at hz; exact hz
    · rw [if_neg h, size_app] at hz; omega
  by_cases hz0 : (subs p).length = 0
  · have hem : (subs p).isEmpty = true := by rw [List.isEmpty_iff]; exact List.eq_nil_of_length_eq_zero hz0
    have hz' : ¬ 0 < ((subs p).length : Int) := by omega
    have hzn : ¬ 0 < (subs p).length := by omega
    have HB := hidI hB
    rw [hem] at HT
    clear hB hz0 hem hP hz hC
    cases he : emp (nick p) with
    | true =>
      rw [he] at hee HT
      clear he
      go_enter Try.func58, Try.ntmps58
      go_wp2_with fail
      go_ret
      exact ⟨by rw [HT.out]; rfl, HB.out⟩
    | false =>
      rw [he] at hee HT
      have hnp : (nick p ++ ⟨#[58]⟩ ++ pfield p).size ≤ 100000 := by rw [he] at hnp; exact hnp
      have hnp2 : (nick p ++ ⟨#[58]⟩).size + (pfield p).size ≤ 9223372036854775807 := by rw [size_app] at hnp; omega
      have hnp3 : (nick p).size + (⟨#[58]⟩ : ByteArray).size ≤ 9223372036854775807 := by rw [size_app, size_app] at hnp; omega
      have ha1 : ∀ w, (Op.stringOp .add (nick p) ⟨#[58]⟩).run Try.prog w = .ok (.string (nick p ++ ⟨#[58]⟩)) w := fun w => run_string_add_sum w _ _ hnp3
      have ha2 : ∀ w, (Op.stringOp .add (nick p ++ ⟨#[58]⟩) (pfield p)).run Try.prog w = .ok (.string (nick p ++ ⟨#[58]⟩ ++ pfield p)) w := fun w => run_string_add_sum w _ _ hnp2
      clear he hnp hnp2 hnp3
      go_enter Try.func58, Try.ntmps58
      go_wp2_with fail
      go_ret
      exact ⟨by rw [HT.out]; rfl, HB.out⟩
  · have hem : (subs p).isEmpty = false := by
      cases h : (subs p).isEmpty with
      | false => rfl
      | true => exact absurd (by rw [List.isEmpty_iff.1 h]; rfl) hz0
    have hz' : 0 < ((subs p).length : Int) := by omega
    have hzn : 0 < (subs p).length := by omega
    have hcl := ih A C (subs p) _ (hP.kept hB) hC (Nat.le_trans (textP_sub hem) hz)
    have HA3 : Hid (∀ x : ByteArray, x.size ≤ 100000 → ∀ w, (Op.stringOp .add x (textL d (subs p))).run Try.prog w = .ok (.string (x ++ textL d (subs p))) w) := fun x hx w => run_string_add_sum w _ _ (by
      have := Nat.le_trans (textP_sub hem) hz
      omega)
    have HB := hidI hB
    rw [hem] at HT
    clear hB hz0 hem hP hz hC
    cases he : emp (nick p) with
    | true =>
      rw [he] at hee HT
      have ha3 := HA3.out (pfield p) (by rw [he] at hnp; exact hnp)
      clear he hnp
      go_enter Try.func58, Try.ntmps58
      go_wp2_with fail
      refine hcl.mono ?_
      clear hcl
      rintro e w1 ⟨rfl, hw1⟩
      have HB1 : Hid (Below w.heap.size w w1) := HB.out.trans (hw1.mono HB.out.size)
      clear hw1
      go_wp2_with fail
      go_ret
      exact ⟨by rw [HT.out]; rfl, HB1.out⟩
    | false =>
      rw [he] at hee HT
      have hnp : (nick p ++ ⟨#[58]⟩ ++ pfield p).size ≤ 100000 := by rw [he] at hnp; exact hnp
      have hnp2 : (nick p ++ ⟨#[58]⟩).size + (pfield p).size ≤ 9223372036854775807 := by rw [size_app] at hnp; omega
      have hnp3 : (nick p).size + (⟨#[58]⟩ : ByteArray).size ≤ 9223372036854775807 := by rw [size_app, size_app] at hnp; omega
      have ha1 : ∀ w, (Op.stringOp .add (nick p) ⟨#[58]⟩).run Try.prog w = .ok (.string (nick p ++ ⟨#[58]⟩)) w := fun w => run_string_add_sum w _ _ hnp3
      have ha2 : ∀ w, (Op.stringOp .add (nick p ++ ⟨#[58]⟩) (pfield p)).run Try.prog w = .ok (.string (nick p ++ ⟨#[58]⟩ ++ pfield p)) w := fun w => run_string_add_sum w _ _ hnp2
      have ha3 := HA3.out (nick p ++ ⟨#[58]⟩ ++ pfield p) hnp
      clear he hnp hnp2 hnp3
      go_enter Try.func58, Try.ntmps58
      go_wp2_with fail
      refine hcl.mono ?_
      clear hcl
      rintro e w1 ⟨rfl, hw1⟩
      have HB1 : Hid (Below w.heap.size w w1) := HB.out.trans (hw1.mono HB.out.size)
      clear hw1
      go_wp2_with fail
      go_ret
      exact ⟨by rw [HT.out]; rfl, HB1.out⟩

def tN (l : List ByteArray) (j : Nat) : ByteArray := l.getD j ⟨#[]⟩
theorem tN_get {l : List ByteArray} {j : Nat} {x : ByteArray} (h : l[j]? = some x) : tN l j = x := by simp [tN, List.getD, h]

set_option maxRecDepth 100000 in
set_option maxHeartbeats 2000000 in
theorem listText_of (d : Nat) (hp : ∀ d', d = d' + 1 → TextOk d') : TextOk d := by
  intro a cap L w hP hcap hz
  obtain ⟨i0, hi0, hz0, hz1, hz2⟩ := info_parts' Try.info9
  have hn : L.length ≤ 9223372036854775807 := hP.max
  have HP := hidI hP
  clear hP
  have HF : Hid (∃ l : List ByteArray, textL d L = ⟨#[123]⟩ ++ joinB l ++ ⟨#[125]⟩ ∧ (joinB l).size ≤ 100000 ∧ l.length = L.length ∧ ∀ d' (e : d = d' + 1) (i : Nat), i < L.length → tN l i = textP (textL d') (pickN (e ▸ L : List (Pick (d' + 1))) i)) := by
    cases d with
    | zero => exact ⟨[], rfl, by rw [joinB_nil]; exact Nat.zero_le _, by rw [nil0 L]; rfl, fun d' e => by omega⟩
    | succ d =>
      refine ⟨L.map (textP (textL d)), rfl, by rw [textL_succ, size_app, size_app] at hz; omega, by simp, fun d' e i hi => ?_⟩
      cases e
      exact tN_get (by rw [pickN_get hi]; simp [hi])
  obtain ⟨l, hl1, hl2, hl3, hl4⟩ := HF
  have HL4 := hidI hl4
  have ha1 : ∀ w, (Op.stringOp .add ⟨#[123]⟩ (joinB l)).run Try.prog w = .ok (.string (⟨#[123]⟩ ++ joinB l)) w := fun w => run_string_add_sum w _ _ (by show 1 + (joinB l).size ≤ _; omega)
  have ha2 : ∀ w, (Op.stringOp .add (⟨#[123]⟩ ++ joinB l) ⟨#[125]⟩).run Try.prog w = .ok (.string (⟨#[123]⟩ ++ joinB l ++ ⟨#[125]⟩)) w := fun w => run_string_add_sum w _ _ (by rw [size_app]; show 1 + (joinB l).size + 1 ≤ _; omega)
  have HR := hidI hl1
  have hcnt := joinB_count l
  have HJ : Hid ((Lib.join (l.map (·.data.toList)) [32]).length ≤ 140737488355328) := by
    have e : (Lib.join (l.map (·.data.toList)) [32]).length = (joinB l).size := by rw [joinB_size]; rfl
    rw [e]; show _ ≤ _; omega
  clear hl1 hl4
  go_enter Try.func31, Try.ntmps31
  go_wp2_with fail
  go_loopw [3, 8] (fun v i wr => ∃ k : Nat, k ≤ L.length ∧ i = .int .i64 k ∧ Row wr w.heap.size 9 1 v k (textCell (tN l)) ∧ Below w.heap.size w wr) (fun _ i _ => L.length - (intOf i).toNat)
  case atStart => exact ⟨0, Nat.zero_le _, rfl, ⟨rfl, .inl ⟨rfl, rfl⟩⟩, Below.refl _ _⟩
  case round =>
    obtain ⟨k, hk, rfl, hrow, hBr⟩ := hrel
    obtain ⟨va, vc, hv, hvc⟩ := hrow.slice
    subst hv
    have HROW := hidI hrow
    clear hrow
    by_cases hlt : k < L.length
    · cases d with
      | zero => exact absurd hlt (by rw [nil0 L]; exact Nat.not_lt_zero _)
      | succ d =>
      obtain ⟨b, o, A, C, ha, c0, c1, c2, hC, s0, s1, hs⟩ := (HP.out.kept hBr).2 k hlt
      subst ha
      have hlt' : (k : Int) < (L.length : Int) := by omega
      have hk0 : (0 : Int) ≤ (k : Int) := by omega
      have HX : Hid (tN l k = textP (textL d) (pickN L k)) := HL4.out d rfl k hlt
      generalize hV : wr.alloc (Obj.cells #[.string (nick (pickN L k)), .string (pfield (pickN L k)), .slice A (subs (pickN L k)).length C] 63) = V
      have hBV : Below wr.heap.size wr V := by rw [← hV]; exact below1 _ _
      have v0 : V.cell? ⟨wr.heap.size, 0, none⟩ = some (.string (nick (pickN L k))) := by rw [← hV, World.cell?_alloc_at _ _ _ _ rfl]; rfl
      have v1 : V.cell? ⟨wr.heap.size, 1, none⟩ = some (.string (pfield (pickN L k))) := by rw [← hV, World.cell?_alloc_at _ _ _ _ rfl]; rfl
      have v2 : V.cell? ⟨wr.heap.size, 2, none⟩ = some (.slice A (subs (pickN L k)).length C) := by rw [← hV, World.cell?_alloc_at _ _ _ _ rfl]; rfl
      have hcl := pickText_any d (hp d rfl) (pickN L k) A C V (hs.kept hBV) hC (Nat.le_trans (textL_part hlt) hz)
      have HBV := hidI hBV
      have HBr := hidI hBr
      clear hs hBV hBr s0 s1
      generalize textP (textL d) (pickN L k) = x at *
      go_wp2_with fail
      clear hV c0 c1 c2
      refine hcl.mono ?_
      clear hcl v0 v1 v2
      rintro e w1 ⟨rfl, hw1⟩
      have hr1 : Below wr.heap.size wr w1 := HBV.out.trans (hw1.mono HBV.out.size)
      have HB1 : Hid (Below w.heap.size w w1) := HBr.out.trans (hr1.mono HBr.out.size)
      have HO := hidI ((HROW.out.kept hr1).kept (below1 w1 (Obj.cells #[.string x] 9)))
      have HVL : Hid (∀ k', (Value.slice va k vc).ownBlock = some k' → w.heap.size ≤ k') := fun k' hk' => (HROW.out.lt hk').1
      have hzw : w.heap.size ≤ w1.heap.size := HB1.out.size
      clear hw1 hr1
      go_wp2_with (at_builtin; refine wpList_append_any _ rfl _ _ 40 rfl w.heap.size 9 i0 _ 1 16 Try.underlying40 hi0 hz0 hz1 hz2 rfl (by decide) _ k _ rfl HO.out (some ⟨w1.heap.size, 0, none⟩) 1 1 [.string x] rfl rfl (alloc_news w1 #[.string x] _) (fun h => by cases h) (by intro u hu; simp at hu; subst hu; rfl) (by unfold maxLen; omega) (by omega) (by simp; omega) ?_)
      intro v' w2 hown hgr hvb
      have HR2 : Hid (Row w2 w.heap.size 9 1 v' (k + 1) (textCell (tN l))) := by
        have e : (List.range ((k + 1) * 1)).map (textCell (tN l)) = (List.range (k * 1)).map (textCell (tN l)) ++ [.string x] := by
          rw [Nat.mul_one, Nat.mul_one, List.range_succ, List.map_append]
          show _ ++ [Value.string (tN l k)] = _
          rw [HX.out]
        show w2.ownsRow _ _ _ _ _ _
        rw [e]; simpa using hown
      have HB2 : Hid (Below w.heap.size w w2) := (HB1.out.trans ((below1 w1 _).mono hzw)).grown hgr (by simp; omega) (fun k' hk' => HVL.out k' hk')
      clear hown hgr hvb HO HVL
      go_wp2_with fail
      go_roundw
      case rel => exact ⟨k + 1, by omega, by go_num, HR2.out, HB2.out⟩
      case measure => simp [intOf]; omega
    · have hkn : k = L.length := by omega
      have HBr := hidI hBr
      rcases HROW.out.shape with ⟨e, h0⟩ | ⟨g, cap', e, hg, hc, -⟩
      · cases e
        have hl0 : l = [] := List.eq_nil_of_length_eq_zero (by omega)
        have hcl := Try.strings_Join_none none 0 ⟨#[32]⟩ wr
        rw [hl0] at ha1 ha2
        rw [joinB_nil] at ha1 ha2
        rw [hl0, joinB_nil] at HR
        rw [h0]
        have hlt0 : ¬ (0 : Int) < (L.length : Int) := by omega
        clear hkn hBr h0
        go_wp2_with fail
        refine hcl.mono ?_
        clear hcl
        rintro e w1 ⟨rfl, rfl⟩
        go_wp2_with fail
        go_ret
        exact ⟨by rw [HR.out]; rfl, HBr.out⟩
      · cases e
        have hcl := Try.strings_Join g 0 vc l ⟨#[32]⟩ wr (fun j y hj => by
          have hjl : j < l.length := (List.getElem?_eq_some_iff.1 hj).1
          have h1 := HROW.out.cell (j := j) (by omega)
          rw [Nat.zero_add, h1]
          show some (Value.string (tN l j)) = some (Value.string y)
          rw [tN_get hj]) (HROW.out.lt rfl).2 (by omega) (by omega) HJ.out
        rw [hl3, ← hkn] at hcl
        have hcl2 : Calls Try.prog 59 #[.slice (some ⟨g, 0, none⟩) k vc, .string ⟨#[32]⟩] wr fun e w' => e = .returned (.string (joinB l)) ∧ Below wr.heap.size wr w' := hcl
        have hlt0 : ¬ (k : Int) < (L.length : Int) := by omega
        clear hkn hBr hcl hlt
        go_wp2_with fail
        refine hcl2.mono ?_
        clear hcl2
        rintro e w1 ⟨rfl, hw1⟩
        have HB1 : Hid (Below w.heap.size w w1) := HBr.out.trans (hw1.mono HBr.out.size)
        clear hw1
        go_wp2_with fail
        go_ret
        exact ⟨by rw [HR.out]; rfl, HB1.out⟩
theorem listText_any : ∀ d, TextOk d
  | 0 => listText_of 0 (fun _ h => by omega)
  | d + 1 => listText_of (d + 1) (fun d' h => by cases h; exact listText_any d)

/-- What Print answers. -/
def printA (d : Nat) (type key : ByteArray) (L : List (Pick d)) : ByteArray × Int := if wA d type key L ≠ 0 then (⟨#[]⟩, wA d type key L) else if 1000 < (textA d type key L).size then (⟨#[]⟩, 3) else (textA d type key L, 0)

set_option maxRecDepth 100000 in
set_option maxHeartbeats 1000000 in
theorem print_any (d : Nat) (type key : ByteArray) (a : Option Addr) (cap : Nat) (L : List (Pick d)) (w : World) (hP : PicksAt w d a L) (hcap : L.length ≤ cap) (hs0 : Small type) (hs1 : Small key) :
    Calls Try.prog 13 #[.agg #[.string type, .string key, .slice a L.length cap]] w fun e w' => e = .returned (.tuple #[.string (printA d type key L).1, .int .i64 (printA d type key L).2]) ∧ Below w.heap.size w w' := by
  generalize hW : w.alloc (Obj.cells #[.string type, .string key, .slice a L.length cap] 24) = W
  have hBW : Below w.heap.size w W := by rw [← hW]; exact below1 _ _
  have hbx : W.heap[w.heap.size]? = some (.cells #[.string type, .string key, .slice a L.length cap] 24 (0, 0)) := by rw [← hW]; exact heap_alloc_new _ _
  have c0 : W.cell? ⟨w.heap.size, 0, none⟩ = some (.string type) := by simp [World.cell?, hbx]
  have c1 : W.cell? ⟨w.heap.size, 1, none⟩ = some (.string key) := by simp [World.cell?, hbx]
  have c2 : W.cell? ⟨w.heap.size, 2, none⟩ = some (.slice a L.length cap) := by simp [World.cell?, hbx]
  have hcl := qwrong_any d type key a cap L W (hP.kept hBW) hs0 hs1
  have HP := hidI hP
  have HBW := hidI hBW
  have HE : Hid (printA d type key L = if wA d type key L ≠ 0 then (⟨#[]⟩, wA d type key L) else if 1000 < (textA d type key L).size then (⟨#[]⟩, 3) else (textA d type key L, 0)) := rfl
  have HTR : Hid (wA d type key L = 0 → (textL d L).size ≤ 100000 ∧ type.size ≤ 12 ∧ key.size ≤ 12) := text_right
  clear hP hbx hBW
  generalize wA d type key L = r at *
  go_enter Try.func13, Try.ntmps13
  go_wp2_with fail
  clear hW
  refine hcl.mono ?_
  clear hcl
  rintro e w1 ⟨rfl, hw1⟩
  have c0 := keptCell hw1 c0
  have c1 := keptCell hw1 c1
  have c2 := keptCell hw1 c2
  have HB1 : Hid (Below w.heap.size w w1) := HBW.out.trans (hw1.mono HBW.out.size)
  clear hw1 HBW
  by_cases hr : r = 0
  case neg =>
    have hr' : (r != 0) = true := by simpa using hr
    have HR : Hid (printA d type key L = (⟨#[]⟩, r)) := by rw [HE.out, if_pos hr]; rfl
    clear hr HE
    go_wp2_with fail
    go_ret2
    exact ⟨by rw [HR.out]; rfl, HB1.out⟩
  have hr' : (r != 0) = false := by simpa using hr
  obtain ⟨hz, ht12, hk12⟩ := HTR.out hr
  rw [if_neg (by simp [hr])] at HE
  have ha1 : ∀ w, (Op.stringOp .add type ⟨#[40]⟩).run Try.prog w = .ok (.string (type ++ ⟨#[40]⟩)) w := fun w => run_string_add_sum w _ _ (by show type.size + 1 ≤ _; omega)
  have ha2 : ∀ w, (Op.stringOp .add (type ++ ⟨#[40]⟩) key).run Try.prog w = .ok (.string (type ++ ⟨#[40]⟩ ++ key)) w := fun w => run_string_add_sum w _ _ (by rw [size_app]; show type.size + 1 + _ ≤ _; omega)
  have ha3 : ∀ w, (Op.stringOp .add (type ++ ⟨#[40]⟩ ++ key) ⟨#[41]⟩).run Try.prog w = .ok (.string (type ++ ⟨#[40]⟩ ++ key ++ ⟨#[41]⟩)) w := fun w => run_string_add_sum w _ _ (by rw [size_app, size_app]; show type.size + 1 + key.size + 1 ≤ _; omega)
  have ha4 : ∀ w, (Op.stringOp .add (type ++ ⟨#[40]⟩ ++ key ++ ⟨#[41]⟩) (textL d L)).run Try.prog w = .ok (.string (textA d type key L)) w := fun w => run_string_add_sum w _ _ (by rw [size_app, size_app, size_app]; show type.size + 1 + key.size + 1 + _ ≤ _; omega)
  have d0 := cell_regrown c0
  have d1 := cell_regrown c1
  have d2 := cell_regrown c2
  have cT : ∀ d' os, Calls Try.prog 31 #[.slice a L.length cap] (grow (redrawn w1 d') os) fun e w'' => e = .returned (.string (textL d L)) ∧ ∃ r : Regrown, w'' = grow (redrawn w1 r.d) r.os := fun d' os => Calls.regrown_of (listText_any d a cap L _ ((HP.out.kept HB1.out).kept (below_regrown w1 d' os)) hcap hz)
  clear hr hz ht12 hk12 HTR c0 c1 c2
  generalize textL d L = tl at *
  generalize textA d type key L = ta at *
  go_wp2_with fail
  refine wp_region_quiet_below (by kernel_rfl) (by kernel_rfl) ?_
  repeat (go_big_quiet_step (first | exact cT _ _))
  refine wpQuiet_nil ?_
  intro _ hw'
  obtain ⟨⟨dq, osq⟩, hw''⟩ := hw'
  subst hw''
  have hB2 := below_regrown w1 dq osq
  have HB2 : Hid (Below w.heap.size w (grow (redrawn w1 dq) osq)) := HB1.out.trans (hB2.mono HB1.out.size)
  clear hB2 cT d0 d1 d2 HB1
  by_cases h1000 : 1000 < ta.size
  · have h1000' : (1000 : Int) < (ta.size : Int) := by omega
    have HR : Hid (printA d type key L = (⟨#[]⟩, 3)) := by rw [HE.out, if_pos h1000]; rfl
    clear h1000 HE
    go_wp2_with fail
    go_ret2
    exact ⟨by rw [HR.out]; rfl, HB2.out⟩
  · have h1000' : ¬ (1000 : Int) < (ta.size : Int) := by omega
    have HR : Hid (printA d type key L = (ta, 0)) := by rw [HE.out, if_neg h1000]; rfl
    clear h1000 HE
    go_wp2_with fail
    go_ret2
    exact ⟨by rw [HR.out]; rfl, HB2.out⟩
end Go.Proofs.Ytjjggefmmeminab
