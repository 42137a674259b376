import Derived.Test.YtikiadefdcfdkabJBase
import Derived.Maps.OwnSet
import Derived.WalkLawsBesides
import Derived.DeepKeys4
import Derived.ChangeKeys
/-
  A map of the call's own, from places (a service, a type, a key) to numbers.
-/
namespace Go.Proofs.Ytikiadefdcfdkab
open Go.RowKit Go.Sort

theorem Try.zeroI (w : World) : (zeroValue 3).run Try.prog w = .ok (.int .i64 0) w := by kernel_rfl
theorem Try.laidOut : laidOutB Try.prog = true := by kernel_rfl
theorem Try.rowP : (146 : TypeId) < Try.prog.types.size := of_decide_eq_true (by kernel_rfl)
theorem Try.wideP : (match Try.prog.underlying 146 with | some (.array _ _) | some (.struct _) => true | _ => false) = true := by kernel_rfl
set_option maxRecDepth 100000 in
theorem Try.keyedP : Maps.Keyed Try.prog 146 := Maps.Keyed.of_law (deep_law_laid Try.laidOut (m := 2) (by omega) Try.rowP (by kernel_rfl) Try.wideP)
theorem Try.keyTypeP : Try.prog.keyType 146 = true := by kernel_rfl
theorem Try.cellsP : Try.prog.cellsOf 146 = 3 := by kernel_rfl
theorem Try.cells1 : Try.prog.cellsOf 3 = 1 := by kernel_rfl
theorem Try.cells2 : Try.prog.cellsOf 9 = 1 := by kernel_rfl
def plV (s : Int) (ty key : ByteArray) : Value := .agg #[.int .i64 s, .string ty, .string key]
def plL (s : Int) (ty key : ByteArray) : List Lit := [.int .i64 s, .string ty.data.toList, .string key.data.toList]
def plK (s : Int) (ty key : ByteArray) : Lit := .string (keyBytes (plL s ty key))
theorem pl_lits {s : Int} {ty key : ByteArray} (hs : (Lit.int .i64 s).wf = true) (ht : Small ty) (hk : Small key) (m : Nat) : Try.prog.keyLits (m + 2) 146 [.int .i64 s, .string ty, .string key] = some (plL s ty key) := by
  have ht' : ty.size ≤ maxLen := ht
  have hk' : key.size ≤ maxLen := hk
  simp [Program.keyLits, Try.underlying146, Try.underlying3, Try.underlying9, Try.cellsP, Try.cells1, Try.cells2, hs, ht', hk', plL]
theorem pl_key {s : Int} {ty key : ByteArray} (hs : (Lit.int .i64 s).wf = true) (ht : Small ty) (hk : Small key) : keyOf Try.prog 146 (plV s ty key) = some (plK s ty key) := by
  have hsz : 1 ≤ Try.prog.types.size := Nat.lt_of_le_of_lt (Nat.zero_le _) Try.rowP
  obtain ⟨m, hm⟩ : ∃ m, Try.prog.types.size + 1 = m + 2 := ⟨Try.prog.types.size - 1, by omega⟩
  have hl := pl_lits hs ht hk m
  unfold keyOf plV plK
  rw [hm]
  simp [Try.underlying146, Try.keyTypeP, Value.formed, Try.cellsP, Value.cells, hl]
theorem data_inj {s u : ByteArray} (h : s.data = u.data) : s = u := by
  cases s; cases u; cases h; rfl
theorem pl_inj {s s' : Int} {ty ty' key key' : ByteArray} (hs : (Lit.int .i64 s).wf = true) (ht : Small ty) (hk : Small key) (hs' : (Lit.int .i64 s').wf = true) (ht' : Small ty') (hk' : Small key') (h : plK s ty key = plK s' ty' key') : s = s' ∧ ty = ty' ∧ key = key' := by
  have e : plL s ty key = plL s' ty' key' := keyLits_inj (pl_lits hs ht hk 0) (pl_lits hs' ht' hk' 0) (by simpa [plK] using h)
  simp [plL] at e
  exact ⟨e.1, data_inj e.2.1, data_inj e.2.2⟩

/-- Block b is a map of at most n places, that has there what f says. -/
def PMap (w : World) (b n : Nat) (f : Int → ByteArray → ByteArray → Option Int) : Prop :=
  ∃ D : DataW Unit, w.ownsMap Try.prog 146 (plainElem Try.prog 3) b n D ∧ ∀ s ty key, (Lit.int .i64 s).wf = true → Small ty → Small key → Maps.has D (plK s ty key) = (f s ty key).isSome ∧ D.atKey (plK s ty key) (.lit (.int .i64 0)) = .lit (.int .i64 ((f s ty key).getD 0))
theorem PMap.made (w : World) : PMap (w.alloc (.map #[] 0)) w.heap.size 0 (fun _ _ _ => none) :=
  ⟨.map [], World.ownsMap_made w _ _ _, fun _ _ _ _ _ _ => ⟨rfl, rfl⟩⟩
theorem PMap.lt {w : World} {b n : Nat} {f : Int → ByteArray → ByteArray → Option Int} (h : PMap w b n f) : b < w.heap.size := let ⟨_, h, _⟩ := h; h.lt
theorem PMap.at {w w' : World} {b n : Nat} {f : Int → ByteArray → ByteArray → Option Int} (h : PMap w b n f) (hb : w'.heap[b]? = w.heap[b]?) : PMap w' b n f := by
  obtain ⟨D, ⟨es, clock, h1, h2⟩, h3⟩ := h
  exact ⟨D, ⟨es, clock, hb.trans h1, h2⟩, h3⟩
theorem PMap.kept {w w' : World} {b n : Nat} {f : Int → ByteArray → ByteArray → Option Int} (h : PMap w b n f) (hB : Below w.heap.size w w') : PMap w' b n f := h.at (hB.block b h.lt)
theorem PMap.congr {w : World} {b n : Nat} {f g : Int → ByteArray → ByteArray → Option Int} (h : PMap w b n f) (e : ∀ s ty key, Small ty → Small key → f s ty key = g s ty key) : PMap w b n g := by
  obtain ⟨D, h1, h2⟩ := h
  exact ⟨D, h1, fun s ty key hs ht hk => by rw [← e s ty key ht hk]; exact h2 s ty key hs ht hk⟩
theorem PMap.look_ok {w : World} {b n : Nat} {f : Int → ByteArray → ByteArray → Option Int} (h : PMap w b n f) {s : Int} {ty key : ByteArray} (hs : (Lit.int .i64 s).wf = true) (ht : Small ty) (hk : Small key) : (Instr.lookup 144 (.map (some b)) (.agg #[.int .i64 s, .string ty, .string key]) true).run Try.prog w = .ok (.tuple #[.int .i64 ((f s ty key).getD 0), .bool (f s ty key).isSome]) w := by
  obtain ⟨D, h1, h2⟩ := h
  obtain ⟨v, ps, hr, hc⟩ := h1.look_ok Try.keyedP Try.underlying144 (Try.zeroI w) (plainElem_int Try.underlying3 (by decide)) (pl_key hs ht hk)
  obtain ⟨c, rfl, hc', -⟩ := plainElem_int_inv Try.underlying3 hc
  rw [(h2 s ty key hs ht hk).2] at hc'
  cases hc'
  rw [(h2 s ty key hs ht hk).1] at hr
  exact hr
theorem PMap.store {w : World} {b n : Nat} {f : Int → ByteArray → ByteArray → Option Int} (h : PMap w b n f) (hn : n < maxLen) {s : Int} {ty key : ByteArray} (hs : (Lit.int .i64 s).wf = true) (ht : Small ty) (hk : Small key) {x : Int} (hx : (Lit.int .i64 x).wf = true) :
    ∃ w', (Instr.mapUpdate 144 (.map (some b)) (.agg #[.int .i64 s, .string ty, .string key]) (.int .i64 x)).run Try.prog w = .ok () w' ∧ PMap w' b (n + 1) (fun s' ty' key' => if s' = s ∧ ty' = ty ∧ key' = key then some x else f s' ty' key') ∧ w.mapTurned w' b := by
  obtain ⟨D, h1, h2⟩ := h
  have hm := h1.isMap
  obtain ⟨w', hr, h3, h4⟩ := h1.store Try.keyedP Try.underlying144 hn (pl_key hs ht hk) (plainElem_int Try.underlying3 hx)
  refine ⟨w', hr, ⟨_, h3, fun s' ty' key' hs' ht' hk' => ?_⟩, h4⟩
  by_cases e : s' = s ∧ ty' = ty ∧ key' = key
  · obtain ⟨rfl, rfl, rfl⟩ := e
    have hl : WideAt.IsKeyLit (plK s' ty' key') := by simp [WideAt.IsKeyLit, plK]
    simp only [and_self, if_true]
    rw [Maps.has_put_same hm hl, Maps.atKey_put_same hm hl]
    exact ⟨rfl, rfl⟩
  · have hne : plK s' ty' key' ≠ plK s ty key := fun h => e (pl_inj hs' ht' hk' hs ht hk h)
    simp only [e, if_false]
    rw [Maps.has_put_other hne, Maps.atKey_put_other hne]
    exact h2 s' ty' key' hs' ht' hk'
end Go.Proofs.Ytikiadefdcfdkab
