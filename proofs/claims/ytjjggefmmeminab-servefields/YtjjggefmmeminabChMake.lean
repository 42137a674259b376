/-
  The contracts of change.copyType, change.names and change.Types: copies in memory of the call's own.
-/
import Derived.Test.YtjjggefmmeminabChDel
import Derived.Test.YtjjggefmmeminabChEach
namespace Go.Proofs.Ytjjggefmmeminab
open Go.RowKit Go.Sort

theorem step_append_any {P : Program} {ops : Array Oper} {o : Oper} {a : Act} {w : World} {K : Act → World → Prop} {Q : Exit → Act → World → Prop} {E : Prop}
    (hgd : o.guard = none) (s x : Operand) (t : TypeId) (ho : o.op = Op.call { callee := Callee.builtin Builtin.append, args := #[s, x], argTypes := #[t, t] })
    (base : Nat) (e : TypeId) (i : TypeInfo) (z : Value) (size bytes : Nat) (ht : P.underlying t = some (.slice e)) (hi : P.info? e = some i) (hz : i.zero = some z)
    (hsize : i.size = size) (hby : i.bytes = bytes) (hzs : z.cells.size = size) (hsz : 0 < size)
    (v : Value) (n : Nat) (xs : List Value) (hs : a.eval s = v) (hown : w.ownsRow base e size v n xs)
    (src : Option Addr) (m c : Nat) (news : List Value) (hx : a.eval x = .slice src m c) (hl : news.length = m * size) (hnews : ∀ ad, src = some ad → ∀ j u, news[j]? = some u → w.cell? (ad.add j) = some u) (hnil : src = none → m = 0) (h1 : ∀ u ∈ news, u.oneCell' = true)
    (h63 : n + m ≤ maxLen) (hbytes : (n + m) * bytes ≤ 140737488355328) (hbase : base ≤ w.heap.size)
    (hK : ∀ v' w', w'.ownsRow base e size v' (n + m) (xs ++ news) → w.grownBy w' v.ownBlock → K (a.put o.dst v') w') :
    if Region.wanted o (yielded ops a.tmps) = true then Oper.wp P o a w K Q else E := by
  have hw : Region.wanted o (yielded ops a.tmps) = true := by simp [Region.wanted, hgd]
  rw [if_pos hw]
  obtain ⟨v', w', hr, h2, h3, h5⟩ := run_append_any (P := P) w base t o.type e i z size bytes ht hi hz hsize hby hzs hsz v n xs hown src m c news hl hnews hnil h1 h63 hbytes hbase
  unfold Oper.wp
  simp [execOp, ho, resolve, invoke, builtin, hs, hx, hr, Result.andThen]
  exact hK v' w' h2 h3

theorem FieldsAt.news {w : World} {a : Option Addr} {n : Nat} {F : Nat → LField} (h : FieldsAt w a n F) : ∀ ad, a = some ad → ∀ j u, ((List.range (n * 3)).map (fieldCell F))[j]? = some u → w.cell? (ad.add j) = some u := by
  intro ad ha j u hu
  by_cases hj : j < n * 3
  · rw [List.getElem?_map, List.getElem?_range hj] at hu
    injection hu with hu
    subst hu
    obtain ⟨b, o, ha', h0, h1, h2, -⟩ := h.2 (j / 3) (by omega)
    rw [ha] at ha'
    cases ha'
    rw [WideShapes.add_plain]
    unfold fieldCell
    have e : j % 3 = 0 ∨ j % 3 = 1 ∨ j % 3 = 2 := by omega
    rcases e with e | e | e
    · rw [if_pos e, show o + j = o + j / 3 * 3 by omega]; exact h0
    · rw [if_neg (by omega), if_pos e, show o + j = o + j / 3 * 3 + 1 by omega]; exact h1
    · rw [if_neg (by omega), if_neg (by omega), show o + j = o + j / 3 * 3 + 2 by omega]; exact h2
  · rw [List.getElem?_eq_none (by simp; omega)] at hu
    cases hu
theorem FieldsAt.nil {w : World} {n : Nat} {F : Nat → LField} (h : FieldsAt w none n F) : n = 0 := by
  rcases Nat.eq_zero_or_pos n with h0 | h0
  · exact h0
  · obtain ⟨b, o, e, _⟩ := h.2 0 h0
    cases e
theorem fieldCells_one (F : Nat → LField) (n : Nat) : ∀ u ∈ (List.range n).map (fieldCell F), u.oneCell' = true := by
  intro u hu
  obtain ⟨j, -, rfl⟩ := List.mem_map.1 hu
  unfold fieldCell
  split
  · rfl
  · split <;> rfl

theorem copy_ne {w w' : World} {base e size n k t : Nat} {v : Value} {f : Nat → Value} {c : Array Value} (h : Row w' base e size v n f) (hb : w'.heap[k]? = w.heap[k]?) (hk : w.heap[k]? = some (.cells c t (0, 0))) (he : e ≠ t := by decide) : v.ownBlock ≠ some k := fun e' => h.box_ne e' (hb.trans hk) he rfl

set_option maxRecDepth 100000 in
set_option maxHeartbeats 1000000 in
theorem copyType_any (name : ByteArray) (fa : Option Addr) (nf fcap : Nat) (F : Nat → LField) (w : World) (hF : FieldsAt w fa nf F) (hnf : nf ≤ 1000) :
    Calls Try.prog 122 #[.agg #[.string name, .slice fa nf fcap]] w fun e w' => (∃ a cap, e = .returned (.agg #[.string name, .slice a nf cap]) ∧ nf ≤ cap ∧ Row w' w.heap.size 138 3 (.slice a nf cap) nf (fieldCell F)) ∧ Below w.heap.size w w' := by
  obtain ⟨i0, hi, hz0, hz1, hz2⟩ := info_parts' Try.info138
  have HF : Hid (FieldsAt w fa nf F) := hF
  clear hF
  go_enter Try.func122, Try.ntmps122
  go_wp2_with fail
  generalize hW : (w.alloc (Obj.cells #[.string name, .slice fa nf fcap] 99)).alloc (Obj.cells #[.string ⟨#[]⟩, .slice none 0 0] 99) = W
  have hB : Below w.heap.size w W := by rw [← hW]; exact below2 _ _ _
  have c0 : W.cell? ⟨w.heap.size, 0, none⟩ = some (.string name) := by rw [← hW, World.cell?_alloc_past _ _ _ (by simp), World.cell?_alloc_at _ _ _ _ rfl]; rfl
  have c1 : W.cell? ⟨w.heap.size, 1, none⟩ = some (.slice fa nf fcap) := by rw [← hW, World.cell?_alloc_past _ _ _ (by simp), World.cell?_alloc_at _ _ _ _ rfl]; rfl
  have d0 : W.cell? ⟨w.heap.size + 1, 0, none⟩ = some (.string ⟨#[]⟩) := by rw [← hW, World.cell?_alloc_at _ _ _ _ (by simp)]; rfl
  have d1 : W.cell? ⟨w.heap.size + 1, 1, none⟩ = some (.slice none 0 0) := by rw [← hW, World.cell?_alloc_at _ _ _ _ (by simp)]; rfl
  have z0 : W.frozen? ⟨w.heap.size + 1, 0, none⟩ = false := by rw [← hW]; exact World.frozen?_alloc_at _ _ _ _ (by simp)
  have z1 : W.frozen? ⟨w.heap.size + 1, 1, none⟩ = false := by rw [← hW]; exact World.frozen?_alloc_at _ _ _ _ (by simp)
  have hz : w.heap.size + 1 < W.heap.size := by rw [← hW]; simp
  have hbx : Hid (W.heap[w.heap.size + 1]? = some (.cells #[.string ⟨#[]⟩, .slice none 0 0] 99 (0, 0))) := by rw [← hW]; exact (show w.heap.size + 1 = (w.alloc (Obj.cells #[.string name, .slice fa nf fcap] 99)).heap.size by simp) ▸ heap_alloc_new _ _
  have HN : Hid (∀ ad, fa = some ad → ∀ j u, ((List.range (nf * 3)).map (fieldCell F))[j]? = some u → W.drew.cell? (ad.add j) = some u) := (HF.out.kept hB).news
  have HNil : Hid (fa = none → nf = 0) := fun h => by have h2 := HF.out; rw [h] at h2; exact h2.nil
  have HO : Hid (∀ u ∈ (List.range (nf * 3)).map (fieldCell F), u.oneCell' = true) := fieldCells_one F _
  have HB : Hid (Below w.heap.size w W.drew) := hB.drew
  have hend : Hid (∀ (w1 : World) (v : Value), w1.ownsRow w.heap.size 138 3 v (0 + nf) ([] ++ (List.range (nf * 3)).map (fieldCell F)) → W.drew.grownBy w1 none → (∃ a cap, v = .slice a nf cap ∧ nf ≤ cap ∧ Row w1 w.heap.size 138 3 (.slice a nf cap) nf (fieldCell F)) ∧ Below w.heap.size w w1 ∧ Below W.heap.size W w1) := by
    intro w1 v h1 h2
    rw [Nat.zero_add, List.nil_append] at h1
    have hr : Row w1 w.heap.size 138 3 v nf (fieldCell F) := h1
    refine ⟨?_, hB.drew.grown h2 hB.size (fun k hk => by cases hk), ⟨h2.os, h2.tape, h2.output, h2.size, fun k hk => h2.block k hk (by simp)⟩⟩
    rcases hr.shape with ⟨rfl, rfl⟩ | ⟨g, cap, rfl, -, hc, -⟩
    · exact ⟨_, _, rfl, Nat.le_refl _, hr⟩
    · exact ⟨_, _, rfl, hc, hr⟩
  clear hW HF hB
  go_region_law (refine step_append_any rfl (.const (.slice none 0 0)) (.tmp 6) 97 rfl w.heap.size 138 i0 _ 3 40 Try.underlying97 hi hz0 hz1 hz2 rfl (by decide) _ 0 [] rfl (World.ownsRow_nil _ _ _ _) fa nf fcap _ (by simp [Act.eval]) (by simp) HN.out HNil.out HO.out (by unfold maxLen; omega) (by omega) HB.out.size ?_; intro v w1 hown hgr; obtain ⟨⟨a', c', rfl, hc', hr⟩, hb, hb2⟩ := hend.out w1 v hown hgr; have c0' := keptCell hb2 c0; have d0' := keptCell hb2 d0; have d1' := keptCell hb2 d1; have z0' := (hb2.frozen (p := ⟨w.heap.size + 1, 0, none⟩) hz).trans z0; have z1' := (hb2.frozen (p := ⟨w.heap.size + 1, 1, none⟩) hz).trans z1; have HR : Hid (Row w1 w.heap.size 138 3 (.slice a' nf c') nf (fieldCell F)) := hr; have HB3 : Hid (Below w.heap.size w w1) := hb; have HNE : Hid ((Value.slice a' nf c').ownBlock ≠ some (w.heap.size + 1)) := copy_ne hr (hb2.block _ hz) hbx.out; clear hown hgr hr hb hb2)
  all_goals (
    go_wp2_with fail
    exact bodyPost_ret (v := .agg #[.string name, .slice a' nf c']) (by simp [results, Try.results122, go_sem, d0', d1']) rfl ⟨⟨a', c', rfl, hc', (HR.out.set_other (p := ⟨w.heap.size + 1, 0, none⟩) HNE.out _).set_other (p := ⟨w.heap.size + 1, 1, none⟩) HNE.out _⟩, (HB3.out.setCell (by simp) _).setCell (by simp) _⟩)

theorem textCell_snoc (O : Nat → ByteArray) (k : Nat) : (List.range ((k + 1) * 1)).map (textCell O) = (List.range (k * 1)).map (textCell O) ++ [.string (O k)] := by
  rw [Nat.mul_one, Nat.mul_one, List.range_succ, List.map_append]; rfl

set_option maxRecDepth 100000 in
set_option maxHeartbeats 1000000 in
theorem names_any (fa : Option Addr) (nf fcap : Nat) (F : Nat → LField) (w : World) (hF : FieldsAt w fa nf F) (hnf : nf ≤ 1000) :
    Calls Try.prog 123 #[.slice fa nf fcap] w fun e w' => (∃ a cap, e = .returned (.slice a nf cap) ∧ nf ≤ cap ∧ Row w' w.heap.size 9 1 (.slice a nf cap) nf (textCell (fun j => (F j).name))) ∧ Below w.heap.size w w' := by
  obtain ⟨i0, hi, hz0, hz1, hz2⟩ := info_parts' Try.info9
  have HF : Hid (FieldsAt w fa nf F) := hF
  have hn : nf ≤ 9223372036854775807 := hF.1
  clear hF
  go_enter Try.func123, Try.ntmps123
  go_wp2_with fail
  go_loopw [3, 8] (fun v i wr => ∃ k : Nat, k ≤ nf ∧ i = .int .i64 k ∧ Row wr w.heap.size 9 1 v k (textCell (fun j => (F j).name)) ∧ Below w.heap.size w wr) (fun _ i _ => nf - (intOf i).toNat)
  case atStart => exact ⟨0, Nat.zero_le _, rfl, World.ownsRow_nil _ _ _ _, Below.refl _ _⟩
  case round =>
    obtain ⟨k, hk, rfl, hrow, hw⟩ := hrel
    by_cases hlt : k < nf
    · obtain ⟨b, o, rfl, f0, f1, f2, -⟩ := (HF.out.kept hw).2 k hlt
      have hlt' : (k : Int) < (nf : Int) := by omega
      have hk0 : (0 : Int) ≤ (k : Int) := by omega
      generalize hW : wr.alloc (Obj.cells #[.string (F k).name, .int .i64 (F k).kind, .string (F k).type] 138) = W
      have hB : Below wr.heap.size wr W := by rw [← hW]; exact below1 _ _
      have k0 : W.cell? ⟨wr.heap.size, 0, none⟩ = some (.string (F k).name) := by rw [← hW, World.cell?_alloc_at _ _ _ _ rfl]; rfl
      have hrow1 : Row (W.alloc (Obj.cells #[.string (F k).name] 9)) w.heap.size 9 1 _ k (textCell (fun j => (F j).name)) := (hrow.kept hB).kept (below1 _ _)
      have HO : Hid (Row (W.alloc (Obj.cells #[.string (F k).name] 9)) w.heap.size 9 1 _ k (textCell (fun j => (F j).name))) := hrow1
      have HBW : Hid (Below w.heap.size w W) := hw.trans (hB.mono hw.size)
      have HL : Hid (∀ k', Value.ownBlock _ = some k' → w.heap.size ≤ k') := fun k' hk' => (hrow.lt hk').1
      have hzw : w.heap.size ≤ W.heap.size := HBW.out.size
      clear hrow1 hrow hw hB
      go_wp2_with (at_builtin; refine wpList_append_any _ rfl _ _ 40 rfl w.heap.size 9 i0 _ 1 16 Try.underlying40 hi hz0 hz1 hz2 rfl (by decide) _ k _ rfl HO.out (some ⟨W.heap.size, 0, none⟩) 1 1 [.string (F k).name] rfl rfl ?c1 (fun h => by cases h) ?c2 (by unfold maxLen; omega) (by omega) (by simp; omega) ?_)
      case c1 =>
        intro ad had j u hu
        cases had
        rw [WideShapes.add_plain]
        match j, hu with
        | 0, hu => simp at hu; subst hu; rw [World.cell?_alloc_at _ _ _ _ rfl]; rfl
      case c2 =>
        intro u hu
        simp at hu
        subst hu; rfl
      intro v2 w6 hown2 hg2 _
      have HR : Hid (Row w6 w.heap.size 9 1 v2 (k + 1) (textCell (fun j => (F j).name))) := by unfold Hid Row; rw [textCell_snoc, Nat.mul_one]; exact hown2
      have HB6 : Hid (Below w.heap.size w w6) := (HBW.out.trans ((below1 W _).mono hzw)).grown hg2 (by simp; omega) (fun k' hk' => HL.out k' hk')
      clear hown2 hg2 HO HL HBW hW k0 f0 f1 f2
      go_wp2_with fail
      go_roundw
      case rel => exact ⟨k + 1, by omega, by go_num, HR.out, HB6.out⟩
      case measure => simp [intOf]; omega
    · have hkn : k = nf := by omega
      subst hkn
      have HR := hrow
      obtain ⟨a, cap, hv, hc⟩ := hrow.slice
      subst hv
      have HR2 : Hid (Row wr w.heap.size 9 1 (.slice a k cap) k (textCell (fun j => (F j).name))) := HR
      have HBW : Hid (Below w.heap.size w wr) := hw
      clear HR hrow hw
      go_wp2_with fail
      go_ret
      exact ⟨⟨a, cap, rfl, hc, HR2.out⟩, HBW.out⟩
end Go.Proofs.Ytjjggefmmeminab
