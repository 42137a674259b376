import Derived.Test.YtikiadefdcfdkabMnThere
import Derived.Test.YtikiadefdcfdkabMnGot
/-
  Functions that tell what is got of a key, as values; the contracts of mean.ofEach and of what mean.filler answers.
-/
namespace Go.Proofs.Ytikiadefdcfdkab
open Go.RowKit Go.Sort Go.PlainAid

theorem Try.info57 : (Try.prog.info? 57).map (fun i => (i.zero, i.size, i.bytes)) = some (some (.slice none 0 0), 1, 24) := by kernel_rfl
theorem Try.info66 : (Try.prog.info? 66).map (fun i => (i.zero, i.size, i.bytes)) = some (some (.agg #[.string ⟨#[]⟩, .int .i64 0, .bool false, .string ⟨#[]⟩, .slice none 0 0, .slice none 0 0]), 6, 96) := by kernel_rfl

/-- What is got, in new memory. -/
def GotsOut (N0 : Nat) : (d : Nat) → World → Option Addr → Nat → List (Got d) → Prop
  | 0, _, _, _, _ => True
  | d + 1, w, a, c, L => L.length ≤ maxLen ∧ ∃ av sv, GRow (d := d) N0 w (.slice a L.length c) L av sv
theorem GotsOut.free {N0 d : Nat} {w : World} {a : Option Addr} {c : Nat} {L : List (Got d)} (h : GotsOut N0 d w a c L) : Free (fun k => k < N0) w (fun w => GotsAt w d a L) := by
  cases d with
  | zero => exact fun _ _ => trivial
  | succ d =>
    obtain ⟨hm, av, sv, hr⟩ := h
    obtain ⟨a', c', e, -, hf⟩ := hr.out hm
    cases e
    exact hf
theorem GotsOut.kept {N0 d : Nat} {w w' : World} {a : Option Addr} {c : Nat} {L : List (Got d)} (h : GotsOut N0 d w a c L) (hB : Below w.heap.size w w') : GotsOut N0 d w' a c L := by
  cases d with
  | zero => trivial
  | succ d =>
    obtain ⟨hm, av, sv, hr⟩ := h
    exact ⟨hm, av, sv, hr.kept hB⟩

/-- A function's value, and how it is entered. -/
def IsFn (v : Value) (K : Nat) (caps : Array Value) : Prop := v = .func (.func K) #[] caps ∧ ∀ args w, (callFunc K args).run Try.prog w = .ok (.enter K args) w
/-- All stands as it stood but for the blocks of X. -/
def KeepX (X : Nat → Prop) (w w' : World) : Prop := Keep (fun k => k < w.heap.size ∧ ¬ X k) w w'
theorem KeepX.refl (X : Nat → Prop) (w : World) : KeepX X w w := Keep.refl _ _
theorem KeepX.of {X : Nat → Prop} {w w' : World} (h : Below w.heap.size w w') : KeepX X w w' := Keep.of h fun _ h => h.1
theorem KeepX.trans {X Y : Nat → Prop} {w w1 w2 : World} (h : KeepX X w w1) (h' : KeepX Y w1 w2) (hY : ∀ k, k < w.heap.size → Y k → X k) : KeepX X w w2 :=
  Keep.trans h (Keep.mono h' fun k hk => ⟨Nat.lt_of_lt_of_le hk.1 h.size, fun hy => hk.2 (hY k hk.1 hy)⟩)
theorem KeepX.cell {X : Nat → Prop} {w w' : World} (h : KeepX X w w') {p : Addr} {v : Value} (hp : w.cell? p = some v) (hx : ¬ X p.block) : w'.cell? p = some v := (Keep.cell h ⟨block_lt_of_cell hp, hx⟩).trans hp
/-- No block. -/
def noB : Nat → Prop := fun _ => False
theorem KeepX.below {w w' : World} (h : KeepX noB w w') : Below w.heap.size w w' := Keep.below h fun _ hb => ⟨hb, id⟩
/-- What is told of a key: nothing, or what is got, in new memory. -/
def GetEnd (N0 d : Nat) (r : Option (List (Got d))) (e : Ending) (w' : World) : Prop := (r = none ∧ e = .returned (.tuple #[.slice none 0 0, .bool false])) ∨ ∃ L a c, r = some L ∧ e = .returned (.tuple #[.slice a L.length c, .bool true]) ∧ L.length ≤ c ∧ GotsOut N0 d w' a c L
/-- A function that tells what is got of a key, if that is there; whatever becomes of the blocks of X. -/
def GetFn (X : Nat → Prop) (w : World) (v : Value) (d : Nat) (f : ByteArray → Option (List (Got d))) : Prop := ∃ K caps, IsFn v K caps ∧ ∀ w1, KeepX X w w1 → ∀ key, Small key → Calls Try.prog K (#[.string key] ++ caps) w1 fun e w' => Below w1.heap.size w1 w' ∧ GetEnd w1.heap.size d (f key) e w'
theorem GetFn.step {X Y : Nat → Prop} {w w' : World} {v : Value} {d : Nat} {f : ByteArray → Option (List (Got d))} (h : GetFn X w v d f) (hk : KeepX X w w') (hY : ∀ k, k < w.heap.size → Y k → X k) : GetFn Y w' v d f := by
  obtain ⟨K, caps, h1, h2⟩ := h
  exact ⟨K, caps, h1, fun w1 hw1 => h2 w1 (hk.trans hw1 hY)⟩
theorem GetFn.kept {X : Nat → Prop} {w w' : World} {v : Value} {d : Nat} {f : ByteArray → Option (List (Got d))} (h : GetFn X w v d f) (hB : Below w.heap.size w w') : GetFn X w' v d f := h.step (KeepX.of hB) fun _ _ h => h
/-- A function that tells what a pick gets of a key. -/
def PickFn (X : Nat → Prop) (w : World) (v : Value) (d : Nat) (f : ByteArray → Got (d + 1)) : Prop := ∃ K caps, IsFn v K caps ∧ ∀ w1, KeepX X w w1 → ∀ key, Small key → Calls Try.prog K (#[.string key] ++ caps) w1 fun e w' => Below w1.heap.size w1 w' ∧ ∃ A C A2 C2, e = .returned (gotA (f key) A C A2 C2) ∧ GotV (fun k => k < w1.heap.size) w' (f key) A C A2 C2
theorem PickFn.step {X Y : Nat → Prop} {w w' : World} {v : Value} {d : Nat} {f : ByteArray → Got (d + 1)} (h : PickFn X w v d f) (hk : KeepX X w w') (hY : ∀ k, k < w.heap.size → Y k → X k) : PickFn Y w' v d f := by
  obtain ⟨K, caps, h1, h2⟩ := h
  exact ⟨K, caps, h1, fun w1 hw1 => h2 w1 (hk.trans hw1 hY)⟩
theorem PickFn.kept {X : Nat → Prop} {w w' : World} {v : Value} {d : Nat} {f : ByteArray → Got (d + 1)} (h : PickFn X w v d f) (hB : Below w.heap.size w w') : PickFn X w' v d f := h.step (KeepX.of hB) fun _ _ h => h
def gotCs {d : Nat} (g : Got (d + 1)) (A : Option Addr) (C : Nat) (A2 : Option Addr) (C2 : Nat) : Array Value := #[.string (gName g), .int .i64 (gKind g), .bool (gNull g), .string (gText g), .slice A (gSub g).length C, .slice A2 (gSubs g).length C2]
/-- A val that may be handed on. -/
structure ValOk (w : World) (v : LVal) : Prop where
  keys : KeysAt w v.ka v.nk v.K
  few : v.nk ≤ 20
theorem ValOk.kept {w w' : World} {v : LVal} (h : ValOk w v) (hB : Below w.heap.size w w') : ValOk w' v := ⟨h.keys.kept hB, h.few⟩
/-- A function that fills in what a val is. -/
def FillFn (X : Nat → Prop) (w : World) (v : Value) (d : Nat) (kd : Int) (f : ByteArray → LVal → Got (d + 1)) : Prop := ∃ K caps, IsFn v K caps ∧ ∀ w1, KeepX X w w1 → ∀ (b : Nat) (nm : ByteArray) (x : LVal), w1.heap[b]? = some (.cells #[.string nm, .int .i64 kd, .bool false, .string ⟨#[]⟩, .slice none 0 0, .slice none 0 0] 66 (0, 0)) → ValOk w1 x →
  Calls Try.prog K (#[.pointer (some ⟨b, 0, none⟩), valA x] ++ caps) w1 fun e w' => e = .returned (.tuple #[]) ∧ Keep (fun k => k < w1.heap.size ∧ k ≠ b) w1 w' ∧ ∃ A C A2 C2, w'.heap[b]? = some (.cells (gotCs (f nm x) A C A2 C2) 66 (0, 0)) ∧ GotV (fun k => k < w1.heap.size) w' (f nm x) A C A2 C2
theorem FillFn.step {X Y : Nat → Prop} {w w' : World} {v : Value} {d : Nat} {kd : Int} {f : ByteArray → LVal → Got (d + 1)} (h : FillFn X w v d kd f) (hk : KeepX X w w') (hY : ∀ k, k < w.heap.size → Y k → X k) : FillFn Y w' v d kd f := by
  obtain ⟨K, caps, h1, h2⟩ := h
  exact ⟨K, caps, h1, fun w1 hw1 => h2 w1 (hk.trans hw1 hY)⟩
theorem FillFn.kept {X : Nat → Prop} {w w' : World} {v : Value} {d : Nat} {kd : Int} {f : ByteArray → LVal → Got (d + 1)} (h : FillFn X w v d kd f) (hB : Below w.heap.size w w') : FillFn X w' v d kd f := h.step (KeepX.of hB) fun _ _ h => h

theorem filterMap_snoc {α β : Type} (f : α → Option β) (l : List α) (x : α) : (l ++ [x]).filterMap f = l.filterMap f ++ (f x).toList := by
  rw [List.filterMap_append]
  cases h : f x <;> simp [h]
theorem take_key {K : Nat → ByteArray} {n k : Nat} (h : k < n) : ((List.range n).map K).take (k + 1) = ((List.range n).map K).take k ++ [K k] := by
  rw [← List.map_take, ← List.map_take, List.take_range, List.take_range, show min (k + 1) n = k + 1 by omega, show min k n = k by omega, List.range_succ, List.map_append]; rfl

set_option maxRecDepth 100000 in
set_option maxHeartbeats 1000000 in
theorem ofEach_any (d : Nat) (ka : Option Addr) (nk kcap : Nat) (K : Nat → ByteArray) (gv : Value) (f : ByteArray → Option (List (Got d))) (w : World) (hK : KeysAt w ka nk K) (hn : nk ≤ 20) (hG : GetFn noB w gv d f) :
    Calls Try.prog 133 #[.slice ka nk kcap, gv] w fun e w' => (∃ v sv, e = .returned v ∧ SRow w.heap.size w' v (((List.range nk).map K).filterMap f) sv) ∧ Below w.heap.size w w' := by
  obtain ⟨i0, hi0, hz0, hz1, hz2⟩ := info_parts' Try.info57
  obtain ⟨F, caps, ⟨rfl, eF⟩, hF⟩ := hG
  have HF := Hid.intro hF
  have HK := Hid.intro hK
  clear hK hF
  go_enter Try.func133, Try.ntmps133
  go_wp2_with fail
  go_loopw [5, 12] (fun v i wr => ∃ k : Nat, k ≤ nk ∧ i = .int .i64 k ∧ Below w.heap.size w wr ∧ ∃ sv, SRow w.heap.size wr v ((((List.range nk).map K).take k).filterMap f) sv) (fun _ i _ => nk - (intOf i).toNat)
  case atStart => exact ⟨0, Nat.zero_le _, rfl, Below.refl _ _, fun _ => undef, SRow.nil _ _ _ _⟩
  case round =>
    obtain ⟨k, hk, rfl, hw, sv, hS⟩ := hrel
    obtain ⟨S, hSd⟩ : ∃ S, S = (((List.range nk).map K).take k).filterMap f := ⟨_, rfl⟩
    rw [← hSd] at hS
    obtain ⟨va, vc, rfl, hvc⟩ := hS.slice
    by_cases hlt : k < nk
    · obtain ⟨b, o, rfl, c0, hsm⟩ := (HK.out.kept hw).2 k hlt
      have hlt' : (k : Int) < (nk : Int) := by omega
      have hk0 : (0 : Int) ≤ (k : Int) := by omega
      have hSl : S.length ≤ k := by
        rw [hSd]
        refine Nat.le_trans (List.length_filterMap_le _ _) ?_
        simp
        omega
      have HT : Hid ((((List.range nk).map K).take (k + 1)).filterMap f = S ++ (f (K k)).toList) := Hid.intro (by rw [take_key hlt, filterMap_snoc, ← hSd])
      have hcl := HF.out wr (KeepX.of hw) (K k) hsm
      have HS := Hid.intro hS
      clear hS hSd hsm
      go_wp2_with fail
      refine hcl.mono ?_
      clear hcl
      rintro e w1 ⟨hw1, h⟩
      have hw2 : Below w.heap.size w w1 := hw.trans (hw1.mono hw.size)
      rcases h with ⟨hf, rfl⟩ | ⟨L, a, c, hf, rfl, hc, hout⟩
      · have HS1 : Hid (SRow w.heap.size w1 (.slice va S.length vc) ((((List.range nk).map K).take (k + 1)).filterMap f) sv) := by
          rw [HT.out, hf, Option.toList_none, List.append_nil]
          exact HS.out.kept hw1
        have HW2 := Hid.intro hw2
        clear hw1 hw2 hf HS HT c0
        go_wp2_with fail
        go_roundw
        case rel => exact ⟨k + 1, by omega, by go_num, HW2.out, sv, HS1.out⟩
        case measure => simp [intOf]; omega
      · have HT1 : Hid ((((List.range nk).map K).take (k + 1)).filterMap f = S ++ [L]) := by rw [HT.out, hf]; rfl
        have HR := Hid.intro ((HS.out.kept hw1).kept (below1 w1 (Obj.cells #[.slice a L.length c] 57)))
        have HFr := Hid.intro (hout.free.kept (below1 w1 (Obj.cells #[.slice a L.length c] 57)))
        have HW2 : Hid (Below w.heap.size w (w1.alloc (Obj.cells #[.slice a L.length c] 57))) := hw2.trans ((below1 w1 _).mono hw2.size)
        have HOW := Hid.intro HR.out.row
        have hNa : w.heap.size ≤ (w1.alloc (Obj.cells #[.slice a L.length c] 57)).heap.size := HW2.out.size
        have hNw : w.heap.size ≤ wr.heap.size := hw.size
        have HVB : Hid (∀ q, (Value.slice va S.length vc).ownBlock = some q → q < wr.heap.size ∧ w.heap.size ≤ q) := fun q hq => ⟨(HS.out.row.lt hq).2, (HS.out.row.lt hq).1⟩
        clear hw1 hw2 hf HS HT c0 hout
        go_wp2_with (at_builtin; refine wpList_append_any _ rfl _ _ 64 rfl w.heap.size 57 i0 _ 1 24 Try.underlying64 hi0 hz0 hz1 hz2 rfl (by decide) _ S.length _ rfl HOW.out (some ⟨w1.heap.size, 0, none⟩) 1 1 [.slice a L.length c] rfl rfl (alloc_news w1 #[.slice a L.length c] _) (fun h => by cases h) (by intro u hu; simp at hu; subst hu; rfl) (by unfold maxLen; omega) (by omega) hNa ?_)
        intro v' w4 hown hgr hvb
        have HS4 : Hid (SRow w.heap.size w4 v' ((((List.range nk).map K).take (k + 1)).filterMap f) (fun i => if i = S.length then .slice a L.length c else sv i)) := by
          rw [HT1.out]
          exact HR.out.app hc HFr.out hNw (fun q hq => (HVB.out q hq).1) (by rw [Nat.mul_one]; exact hown) hgr (by simpa using hvb)
        have HW4 : Hid (Below w.heap.size w w4) := HW2.out.grown hgr hNa (fun q hq => (HVB.out q hq).2)
        clear hown hgr hvb HOW HR HFr HVB
        go_wp2_with fail
        go_roundw
        case rel => exact ⟨k + 1, by omega, by go_num, HW4.out, _, HS4.out⟩
        case measure => simp [intOf]; omega
    · have hkn : k = nk := by omega
      have HF : Hid (SRow w.heap.size wr (.slice va S.length vc) (((List.range nk).map K).filterMap f) sv) := by
        have e2 : (((List.range nk).map K).take k).filterMap f = ((List.range nk).map K).filterMap f := by rw [List.take_of_length_le (by simp; omega)]
        rw [← e2, ← hSd]
        exact hS
      have HW := Hid.intro hw
      clear hS hw hSd
      go_wp2_with fail
      go_ret
      exact ⟨⟨_, sv, rfl, HF.out⟩, HW.out⟩
end Go.Proofs.Ytikiadefdcfdkab
