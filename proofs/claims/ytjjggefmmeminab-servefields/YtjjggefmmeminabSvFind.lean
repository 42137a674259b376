/-
  The contracts of serve.finder and of the function that it answers: the first thing of that type and of a key.
-/
import Derived.Test.YtjjggefmmeminabSvAgain
import Derived.Test.YtjjggefmmeminabSvValsOf
namespace Go.Proofs.Ytjjggefmmeminab
open Go.RowKit Go.Sort

theorem Try.e71 : ∀ args w, (callFunc 71 args).run Try.prog w = .ok (.enter 71 args) w := enters_of Try.func71 (by kernel_rfl) rfl

/-- Where the first thing of a key stands, among the first k. -/
def firsts (X : Nat → LThing) (typ : ByteArray) (k : Nat) (s : ByteArray) : Option Int := if idx k (sameThing X typ s) < 0 then none else some (idx k (sameThing X typ s))
theorem idx_succ (k : Nat) (p : Nat → Bool) : idx (k + 1) p = if 0 ≤ idx k p then idx k p else if p k then (k : Int) else -1 := by
  rcases idx_cases k p with ⟨h, hb⟩ | ⟨j, hj, h, hp, hb⟩
  · rw [h, if_neg (by omega)]
    cases hk : p k
    · rw [idx_none (fun j hj => by
        rcases Nat.lt_succ_iff_lt_or_eq.1 hj with h | h
        · exact hb j h
        · rw [h]; exact hk)]
      rfl
    · rw [idx_hit (Nat.lt_succ_self k) hk hb]; rfl
  · rw [h, if_pos (by omega), idx_hit (Nat.lt_succ_of_lt hj) hp hb]
theorem firsts_miss {X : Nat → LThing} {typ : ByteArray} {k : Nat} (h : eqs (X k).type typ = false ∨ (firsts X typ k (X k).key).isSome = true) (s : ByteArray) : firsts X typ k s = firsts X typ (k + 1) s := by
  unfold firsts at *
  rw [idx_succ]
  by_cases h0 : 0 ≤ idx k (sameThing X typ s)
  · rw [if_pos h0]
  · rw [if_neg h0, if_pos (by omega)]
    have hs : sameThing X typ s k = false := by
      unfold sameThing
      rcases h with h | h
      · rw [h]; rfl
      · cases e : eqs (X k).key s
        · simp
        · rw [eqs_iff.1 e] at h
          rw [if_pos (by omega)] at h
          cases h
    rw [hs]
    rfl
theorem firsts_hit {X : Nat → LThing} {typ : ByteArray} {k : Nat} (h1 : eqs (X k).type typ = true) (h2 : (firsts X typ k (X k).key).isSome = false) (s : ByteArray) : (if eqs s (X k).key then some (k : Int) else firsts X typ k s) = firsts X typ (k + 1) s := by
  unfold firsts at *
  rw [idx_succ]
  have hs : sameThing X typ s k = eqs s (X k).key := by
    unfold sameThing
    rw [h1, eqs_comm]; rfl
  rw [hs]
  cases e : eqs s (X k).key
  · by_cases h0 : 0 ≤ idx k (sameThing X typ s)
    · rw [if_pos h0]; rfl
    · rw [if_neg h0, if_pos (show idx k (sameThing X typ s) < 0 by omega)]; rfl
  · rw [eqs_iff.1 e]
    have h0 : idx k (sameThing X typ (X k).key) < 0 := by
      by_cases h : idx k (sameThing X typ (X k).key) < 0
      · exact h
      · rw [if_neg h] at h2; cases h2
    rw [if_neg (show ¬ 0 ≤ idx k (sameThing X typ (X k).key) by omega)]
    simp only [if_true]
    rw [if_neg (show ¬ (k : Int) < 0 by omega)]

theorem TMap.more {w : World} {b n : Nat} {f : ByteArray → Option Int} (h : TMap w b n f) : TMap w b (n + 1) f := by
  obtain ⟨D, h1, h2⟩ := h
  exact ⟨D, h1.mono (Nat.le_succ n), h2⟩
/-- The function's variables. -/
structure Finds (w : World) (bm bt m : Nat) (typ : ByteArray) (s : SServ) : Prop where
  boxM : w.heap[bm]? = some (.cells #[.map (some m)] 133 (0, 0))
  boxT : w.heap[bt]? = some (.cells #[.slice s.xa s.nx s.xcap] 72 (0, 0))
  map : TMap w m s.nx (firsts s.X typ s.nx)
theorem Finds.kept {w w' : World} {bm bt m : Nat} {typ : ByteArray} {s : SServ} (h : Finds w bm bt m typ s) (hB : Below w.heap.size w w') : Finds w' bm bt m typ s :=
  ⟨(hB.block _ (lt_of_block h.boxM)).trans h.boxM, (hB.block _ (lt_of_block h.boxT)).trans h.boxT, h.map.kept hB⟩
theorem Finds.steady {w w' : World} {bm bt m base : Nat} {typ : ByteArray} {s : SServ} (h : Finds w bm bt m typ s) (hS : Steady tsA base w w') : Finds w' bm bt m typ s :=
  ⟨hS.block h.boxM (by decide), hS.block h.boxT (by decide), h.map.steady hS⟩
def finderV (bm bt : Nat) : Value := .func (.func 71) #[] #[.pointer (some ⟨bm, 0, none⟩), .pointer (some ⟨bt, 0, none⟩)]

set_option maxRecDepth 100000 in
set_option maxHeartbeats 1000000 in
theorem finder_any (s : SServ) (typ : ByteArray) (w : World) (hX : ThingsAt w s.xa s.nx s.X) :
    Calls Try.prog 38 #[.slice s.xa s.nx s.xcap, .string typ] w fun e w' => ∃ bm bt m, e = .returned (finderV bm bt) ∧ Finds w' bm bt m typ s ∧ Below w.heap.size w w' := by
  have hmf : ∀ (fn : Fn) (first cap : Array Value) (w : World), (Instr.makeFunc fn first cap).run Try.prog w = .ok (.func fn first cap) w := fun _ _ _ _ => rfl
  have hmm := @run_makeMap Try.prog
  have hn : s.nx ≤ 9223372036854775807 := hX.1
  have HX := Hid.intro hX
  clear hX
  obtain ⟨xa, hxa⟩ : ∃ xa, xa = s.xa := ⟨_, rfl⟩
  have HXA := Hid.intro hxa
  rw [← hxa] at HX
  rw [← hxa]
  clear hxa
  go_enter Try.func38, Try.ntmps38
  go_wp2_with fail
  generalize hW : ((w.alloc (Obj.cells #[Value.slice xa s.nx s.xcap] 72)).alloc (Obj.map #[] 0)).alloc (Obj.cells #[Value.map (some (w.heap.size + 1))] 133) = W
  have hBW : Below w.heap.size w W := by rw [← hW]; exact below3 _ _ _ _
  have hT0 : W.heap[w.heap.size]? = some (.cells #[.slice xa s.nx s.xcap] 72 (0, 0)) := by
    rw [← hW]
    exact (Below.heap_alloc _ _ _ (by simp; omega)).trans ((Below.heap_alloc _ _ _ (by simp)).trans (heap_alloc_new _ _))
  have hM0 : W.heap[w.heap.size + 1 + 1]? = some (.cells #[.map (some (w.heap.size + 1))] 133 (0, 0)) := by
    rw [← hW]
    exact (show w.heap.size + 1 + 1 = ((w.alloc (Obj.cells #[Value.slice xa s.nx s.xcap] 72)).alloc (Obj.map #[] 0)).heap.size by simp) ▸ heap_alloc_new _ _
  have hE0 : TMap W (w.heap.size + 1) 0 (firsts s.X typ 0) := by
    rw [← hW]
    have h1 := (TMap.made (w.alloc (Obj.cells #[Value.slice xa s.nx s.xcap] 72))).kept (below1 _ (Obj.cells #[Value.map (some (w.heap.size + 1))] 133))
    rw [show (w.alloc (Obj.cells #[Value.slice xa s.nx s.xcap] 72)).heap.size = w.heap.size + 1 by simp] at h1
    exact h1.congr fun s _ => rfl
  have HBW := Hid.intro hBW
  have HT0 := Hid.intro hT0
  have HM0 := Hid.intro hM0
  have HE0 := Hid.intro hE0
  clear hW hBW hT0 hM0 hE0
  obtain ⟨bt, hbt⟩ : ∃ bt, bt = w.heap.size := ⟨_, rfl⟩
  obtain ⟨m, hm⟩ : ∃ m, m = w.heap.size + 1 := ⟨_, rfl⟩
  obtain ⟨bm, hbm⟩ : ∃ bm, bm = w.heap.size + 1 + 1 := ⟨_, rfl⟩
  have hmle : w.heap.size ≤ m := by omega
  have hne1 : bt ≠ m := by omega
  have hne2 : bm ≠ m := by omega
  rw [← hbt] at HT0
  rw [← hbm, ← hm] at HM0
  rw [← hm] at HE0
  rw [← hbm, ← hm, ← hbt]
  clear hbt hm hbm
  go_loopw [13] (fun i wr => ∃ k : Nat, k ≤ s.nx ∧ i = .int .i64 k ∧ wr.heap[bt]? = some (.cells #[.slice xa s.nx s.xcap] 72 (0, 0)) ∧ wr.heap[bm]? = some (.cells #[.map (some m)] 133 (0, 0)) ∧ TMap wr m k (firsts s.X typ k) ∧ Below w.heap.size w wr) (fun i _ => s.nx - (intOf i).toNat)
  case atStart => exact ⟨0, Nat.zero_le _, rfl, HT0.out, HM0.out, HE0.out, HBW.out⟩
  case round =>
    obtain ⟨k, hk, rfl, hT, hM, hE, hw⟩ := hrel
    by_cases hlt : k < s.nx
    · obtain ⟨b, o, rfl, c0, c1, c2, -, -, hs, -⟩ := (HX.out.kept hw).2 k hlt
      have hlt' : (k : Int) < (s.nx : Int) := by omega
      have hk0 : (0 : Int) ≤ (k : Int) := by omega
      generalize hX1 : wr.alloc (Obj.cells #[.string (s.X k).type, .string (s.X k).key, .slice (s.X k).va (s.X k).nv (s.X k).vcap] 90) = X1
      have hB1 : Below wr.heap.size wr X1 := by rw [← hX1]; exact below1 _ _
      have e0 : X1.cell? ⟨wr.heap.size, 0, none⟩ = some (.string (s.X k).type) := by rw [← hX1, World.cell?_alloc_at _ _ _ _ rfl]; rfl
      have e1 : X1.cell? ⟨wr.heap.size, 1, none⟩ = some (.string (s.X k).key) := by rw [← hX1, World.cell?_alloc_at _ _ _ _ rfl]; rfl
      have HT1 := Hid.intro ((hB1.block _ (lt_of_block hT)).trans hT)
      have HM1 := Hid.intro ((hB1.block _ (lt_of_block hM)).trans hM)
      have HE1 := Hid.intro (hE.kept hB1)
      have hm0 : X1.cell? ⟨bm, 0, none⟩ = some (.map (some m)) := by simp [World.cell?, HM1.out]
      have hlk := HE1.out.look_ok hs
      have HW1 : Hid (Below w.heap.size w X1) := hw.trans (hB1.mono hw.size)
      have HS := Hid.intro hs
      clear hT hM hE hw hB1 hs
      cases hf : firsts s.X typ k (s.X k).key with
      | some r =>
        have HF : Hid (∀ u, firsts s.X typ k u = firsts s.X typ (k + 1) u) := firsts_miss (.inr (by rw [hf]; rfl))
        rw [hf] at hlk
        simp only [Option.getD_some, Option.isSome_some] at hlk
        clear hf
        cases he : ((s.X k).type.toList == typ.toList)
        · go_wp2_with fail
          clear hX1
          go_roundw
          case rel => exact ⟨k + 1, by omega, by go_num, HT1.out, HM1.out, (HE1.out.congr fun u _ => HF.out u).more, HW1.out⟩
          case measure => simp [intOf]; omega
        · go_wp2_with fail
          clear hX1
          go_roundw
          case rel => exact ⟨k + 1, by omega, by go_num, HT1.out, HM1.out, (HE1.out.congr fun u _ => HF.out u).more, HW1.out⟩
          case measure => simp [intOf]; omega
      | none =>
        rw [hf] at hlk
        simp only [Option.getD_none, Option.isSome_none] at hlk
        cases he : ((s.X k).type.toList == typ.toList)
        · have HF : Hid (∀ u, firsts s.X typ k u = firsts s.X typ (k + 1) u) := firsts_miss (.inl (by rw [← eqs_eq]; exact he))
          clear hf
          go_wp2_with fail
          clear hX1
          go_roundw
          case rel => exact ⟨k + 1, by omega, by go_num, HT1.out, HM1.out, (HE1.out.congr fun u _ => HF.out u).more, HW1.out⟩
          case measure => simp [intOf]; omega
        · have HF : Hid (∀ u, (if eqs u (s.X k).key then some (k : Int) else firsts s.X typ k u) = firsts s.X typ (k + 1) u) := firsts_hit (by rw [← eqs_eq]; exact he) (by rw [hf]; rfl)
          obtain ⟨w2, hst, hM2, hT2⟩ := HE1.out.store (by unfold maxLen; omega) HS.out (x := (k : Int)) (wf_small (by omega) (by omega))
          have HM2 := Hid.intro (hM2.congr fun u _ => HF.out u)
          have hg2 := hT2.grown
          have HT3 := Hid.intro ((hg2.block _ (lt_of_block HT1.out) (fun e => hne1 (by cases e; rfl))).trans HT1.out)
          have HM3 := Hid.intro ((hg2.block _ (lt_of_block HM1.out) (fun e => hne2 (by cases e; rfl))).trans HM1.out)
          have HW2 : Hid (Below w.heap.size w w2) := HW1.out.trans ⟨hg2.os, hg2.tape, hg2.output, hg2.size, fun q hq => hg2.block q (by have := HW1.out.size; omega) (fun e => by cases e; omega)⟩
          clear hf hM2 hT2 hg2
          go_wp2_with fail
          clear hX1
          go_roundw
          case rel => exact ⟨k + 1, by omega, by go_num, HT3.out, HM3.out, HM2.out, HW2.out⟩
          case measure => simp [intOf]; omega
    · have hkn : k = s.nx := by omega
      have HF : Hid (Finds wr bm bt m typ s ∧ Below w.heap.size w wr) := by
        rw [hkn] at hE
        rw [HXA.out] at hT
        exact ⟨⟨hM, hT, hE⟩, hw⟩
      clear hT hM hE hw
      go_wp2_with fail
      go_ret
      exact ⟨bm, bt, m, rfl, HF.out⟩

set_option maxRecDepth 100000 in
set_option maxHeartbeats 1000000 in
theorem finder1_any (bm bt m : Nat) (s : SServ) (typ key : ByteArray) (w : World) (hX : ThingsAt w s.xa s.nx s.X) (hk : Small key) (h : Finds w bm bt m typ s) :
    Calls Try.prog 71 #[.string key, .pointer (some ⟨bm, 0, none⟩), .pointer (some ⟨bt, 0, none⟩)] w fun e w' => e = .returned (.tuple #[thingV (thingOf s typ key), .bool (foundI s typ key)]) ∧ Below w.heap.size w w' := by
  have hlk := (h.map.kept (below1 w (Obj.cells #[.string ⟨#[]⟩, .string ⟨#[]⟩, .slice none 0 0] 90))).look_ok hk
  have hm0 : w.cell? ⟨bm, 0, none⟩ = some (.map (some m)) := by simp [World.cell?, h.boxM]
  have ht0 : w.cell? ⟨bt, 0, none⟩ = some (.slice s.xa s.nx s.xcap) := by simp [World.cell?, h.boxT]
  have hbm := lt_of_block h.boxM
  have hbt := lt_of_block h.boxT
  have hn : s.nx ≤ 9223372036854775807 := hX.1
  unfold firsts at hlk
  rcases idx_cases s.nx (sameThing s.X typ key) with ⟨hi, -⟩ | ⟨k, hkn, hi, -⟩
  · obtain ⟨f1, f2⟩ := foundI_none (s := s) (typ := typ) (key := key) (by rw [hi]; decide)
    rw [hi] at hlk
    simp only [show ((-1 : Int) < 0) = True by simp, if_true, Option.getD_none, Option.isSome_none] at hlk
    rw [f1, f2]
    clear f1 f2 hi h hX
    go_enter Try.func71, Try.ntmps71
    go_wp2_with fail
    exact bodyPost_ret (v := .tuple #[.agg #[.string ⟨#[]⟩, .string ⟨#[]⟩, .slice none 0 0], .bool false]) (by simp [results, Try.results71, go_sem]) rfl ⟨rfl, below1 _ _⟩
  · obtain ⟨f1, f2⟩ := foundI_some hi
    obtain ⟨b, o, hxa, c0, c1, c2, -⟩ := hX.2 k hkn
    rw [hi] at hlk
    rw [if_neg (by omega)] at hlk
    simp only [Option.getD_some, Option.isSome_some] at hlk
    rw [f1, f2]
    rw [hxa] at ht0
    have hlt' : (k : Int) < (s.nx : Int) := by omega
    have hk0 : (0 : Int) ≤ (k : Int) := by omega
    have hbb : b < w.heap.size := block_lt_of_cell c0
    clear f1 f2 hi h hX hxa
    go_enter Try.func71, Try.ntmps71
    go_wp2_with fail
    exact bodyPost_ret (v := .tuple #[.agg #[.string (s.X k).type, .string (s.X k).key, .slice (s.X k).va (s.X k).nv (s.X k).vcap], .bool true]) (by simp [results, Try.results71, go_sem]) rfl ⟨rfl, below1 _ _⟩
end Go.Proofs.Ytjjggefmmeminab
