/-
  Rows of vals in own memory, each with its keys; what they are when one comes behind. (What is got of a thing.)
-/
import Derived.Test.YtjjggefmmeminabSvMem
import Derived.Test.YtjjggefmmeminabSvPlain
import Derived.Deep.Strs
namespace Go.Proofs.Ytjjggefmmeminab
open Go.RowKit Go.Sort

theorem Row.lower {w : World} {base base' e size n : Nat} {v : Value} {f : Nat → Value} (h : Row w base e size v n f) (hb : base' ≤ base) : Row w base' e size v n f := by
  refine ⟨h.1, ?_⟩
  rcases h.2 with h | ⟨g, cap, cur, hv, hg, r⟩
  · exact .inl h
  · exact .inr ⟨g, cap, cur, hv, Nat.le_trans hb hg, r⟩

def noVal : LVal := ⟨⟨#[]⟩, ⟨#[]⟩, none, 0, 0, fun _ => ⟨#[]⟩⟩
def nthV (L : List LVal) (i : Nat) : LVal := L.getD i noVal
theorem nthV_left {L M : List LVal} {i : Nat} (h : i < L.length) : nthV (L ++ M) i = nthV L i := by
  unfold nthV; simp [List.getD_eq_getElem?_getD, List.getElem?_append_left h]
theorem nthV_last (L : List LVal) (y : LVal) : nthV (L ++ [y]) L.length = y := by
  unfold nthV; simp [List.getD_eq_getElem?_getD]
def cellOf (y : LVal) (u : Value) (j : Nat) : Value := if j = 0 then .string y.field else if j = 1 then .string y.text else u
def valCell (L : List LVal) (kv : Nat → Value) (j : Nat) : Value := cellOf (nthV L (j / 3)) (kv (j / 3)) (j % 3)
theorem cellOf_one {y : LVal} {u : Value} (h : u.oneCell' = true) (j : Nat) : (cellOf y u j).oneCell' = true := by
  unfold cellOf; split
  · rfl
  · split
    · rfl
    · exact h

/-- A slice of these texts. -/
def KeysIn (w : World) (u : Value) (n : Nat) (K : Nat → ByteArray) : Prop := ∃ a cap, u = .slice a n cap ∧ n ≤ cap ∧ KeysAt w a n K
/-- Elements whose rows may grow meanwhile. -/
def tsK (t : Nat) : Bool := t == 4 || t == 54 || t == 46 || t == 56
def tsV (t : Nat) : Bool := t == 56
def tsA (t : Nat) : Bool := t == 4 || t == 54 || t == 46
theorem tsV_K : ∀ t, tsV t = true → tsK t = true := fun t h => by simp [tsV, tsK] at *; simp [h]
theorem tsA_K : ∀ t, tsA t = true → tsK t = true := fun t h => by
  simp only [tsA, tsK, Bool.or_eq_true] at *
  exact .inl h

structure ValRows (w : World) (B base : Nat) (v : Value) (L : List LVal) (kv : Nat → Value) : Prop where
  row : Row w B 56 3 v L.length (valCell L kv)
  keys : ∀ i, i < L.length → Stays tsK base w (fun w' => KeysIn w' (kv i) (nthV L i).nk (nthV L i).K)
  good : ∀ i, i < L.length → Small (nthV L i).field ∧ Small (nthV L i).text

theorem valRows_nil (w : World) (B base : Nat) (kv : Nat → Value) : ValRows w B base (.slice none 0 0) [] kv :=
  ⟨World.ownsRow_nil _ _ _ _, fun _ hi => absurd hi (Nat.not_lt_zero _), fun _ hi => absurd hi (Nat.not_lt_zero _)⟩
theorem ValRows.lower {w : World} {B B' base : Nat} {v : Value} {L : List LVal} {kv : Nat → Value} (h : ValRows w B base v L kv) (hb : B' ≤ B) : ValRows w B' base v L kv := ⟨h.row.lower hb, h.keys, h.good⟩
theorem ValRows.kept {w w' : World} {B base : Nat} {v : Value} {L : List LVal} {kv : Nat → Value} (h : ValRows w B base v L kv) (hB : Below w.heap.size w w') (hb : base ≤ w.heap.size) : ValRows w' B base v L kv :=
  ⟨h.row.kept hB, fun i hi => (h.keys i hi).then (steady_new hB hb), h.good⟩
theorem ValRows.steady {w w' : World} {B base : Nat} {v : Value} {L : List LVal} {kv : Nat → Value} (h : ValRows w B base v L kv) (hS : Steady tsA base w w') : ValRows w' B base v L kv :=
  ⟨h.row.steady hS (by decide), fun i hi => (h.keys i hi).then (hS.mono tsA_K), h.good⟩
theorem ValRows.snoc {w w' : World} {B base : Nat} {v v' : Value} {L : List LVal} {kv : Nat → Value} (h : ValRows w B base v L kv) (hb : base ≤ B) (hB : B ≤ w.heap.size) {y : LVal} {u : Value} (hy : Small y.field ∧ Small y.text) (hu : Stays tsK base w (fun w' => KeysIn w' u y.nk y.K))
    (hrow : Row w' B 56 3 v' (L.length + 1) (fun j => if j < L.length * 3 then valCell L kv j else cellOf y u (j - L.length * 3))) (hg : w.grownBy w' v.ownBlock) : ValRows w' B base v' (L ++ [y]) (fun i => if i = L.length then u else kv i) := by
  have hS : Steady tsK base w w' := (steady_grown (ts := tsV) (h.row.lower hb) (by decide) hg (by omega)).mono tsV_K
  refine ⟨?_, fun i hi => ?_, fun i hi => ?_⟩
  · have hl : (L ++ [y]).length = L.length + 1 := by simp
    rw [hl]
    refine hrow.congr fun j hj => ?_
    unfold valCell
    by_cases h1 : j < L.length * 3
    · have h2 : ¬ j / 3 = L.length := by omega
      simp only [if_pos h1, if_neg h2]
      rw [nthV_left (by omega)]
    · have h2 : j / 3 = L.length := by omega
      simp only [if_neg h1, h2, if_true]
      rw [nthV_last, show j % 3 = j - L.length * 3 by omega]
  · by_cases h1 : i = L.length
    · subst h1
      simp only [if_true, nthV_last]
      exact hu.then hS
    · have h2 : i < L.length := by simp at hi; omega
      simp only [if_neg h1, nthV_left h2]
      exact (h.keys i h2).then hS
  · by_cases h1 : i = L.length
    · subst h1
      rw [nthV_last]; exact hy
    · have h2 : i < L.length := by simp at hi; omega
      rw [nthV_left h2]; exact h.good i h2
/-- Alike, wherever their keys lie. -/
def SameV (x y : LVal) : Prop := x.field = y.field ∧ x.text = y.text ∧ x.nk = y.nk ∧ ∀ j, j < x.nk → x.K j = y.K j
theorem ValRows.valsAt {w : World} {B base : Nat} {v : Value} {L : List LVal} {kv : Nat → Value} (h : ValRows w B base v L kv) (hm : L.length ≤ maxLen) : ∃ a cap V, v = .slice a L.length cap ∧ L.length ≤ cap ∧ ValsAt w a L.length V ∧ ∀ i, i < L.length → SameV (V i) (nthV L i) := by
  have hk : ∀ i, i < L.length → ∃ p : Option Addr × Nat, kv i = .slice p.1 (nthV L i).nk p.2 ∧ (nthV L i).nk ≤ p.2 ∧ KeysAt w p.1 (nthV L i).nk (nthV L i).K := fun i hi => by
    obtain ⟨a, cap, h1, h2, h3⟩ := (h.keys i hi).now
    exact ⟨(a, cap), h1, h2, h3⟩
  obtain ⟨p, hp⟩ := Go.Deep.choose_lt (α := Option Addr × Nat) (n := L.length) (p := fun i p => kv i = .slice p.1 (nthV L i).nk p.2 ∧ (nthV L i).nk ≤ p.2 ∧ KeysAt w p.1 (nthV L i).nk (nthV L i).K) hk
  rcases h.row.shape with ⟨rfl, h0⟩ | ⟨g, cap, rfl, -, hc, -⟩
  · exact ⟨none, 0, fun _ => noVal, by rw [h0], by omega, ⟨by omega, fun i hi => by omega⟩, fun i hi => by omega⟩
  · refine ⟨_, cap, fun i => ⟨(nthV L i).field, (nthV L i).text, (p i).1, (nthV L i).nk, (p i).2, (nthV L i).K⟩, rfl, hc, ⟨hm, fun i hi => ⟨g, 0, rfl, ?_, ?_, ?_, (hp i hi).2.1, (h.good i hi).1, (h.good i hi).2, (hp i hi).2.2⟩⟩, fun i hi => ⟨rfl, rfl, rfl, fun _ _ => rfl⟩⟩
    · rw [h.row.cell (by omega)]
      unfold valCell cellOf
      rw [show (0 + i * 3) / 3 = i by omega, if_pos (by omega)]
    · rw [h.row.cell (by omega)]
      unfold valCell cellOf
      rw [show (0 + i * 3 + 1) / 3 = i by omega, if_neg (by omega), if_pos (by omega)]
    · rw [h.row.cell (by omega)]
      unfold valCell cellOf
      rw [show (0 + i * 3 + 2) / 3 = i by omega, if_neg (by omega), if_neg (by omega), (hp i hi).1]
/-- Keys in a row of their own stay. -/
theorem Row.stays {w : World} {B n : Nat} {u : Value} {K : Nat → ByteArray} (h : Row w B 9 1 u n (textCell K)) (hn : n ≤ maxLen) (hg : ∀ j, j < n → Small (K j)) (base : Nat) : Stays tsK base w (fun w' => KeysIn w' u n K) := fun w' hS => by
  obtain ⟨a, cap, h1, h2, h3⟩ := (h.steady hS (by decide)).keysAt hn hg
  exact ⟨a, cap, h1, h2, h3⟩
/-- Keys that lay there before stay. -/
theorem KeysAt.stays {w0 w : World} {a : Option Addr} {n cap : Nat} {K : Nat → ByteArray} (h : KeysAt w0 a n K) (hB : Below w0.heap.size w0 w) (hc : n ≤ cap) : Stays tsK w0.heap.size w (fun w' => KeysIn w' (.slice a n cap) n K) := fun _ hS =>
  ⟨a, cap, rfl, hc, h.kept (hB.trans hS.below)⟩
theorem Try.info56 : (Try.prog.info? 56).map (fun i => (i.zero, i.size, i.bytes)) = some (some (.agg #[.string ⟨#[]⟩, .string ⟨#[]⟩, .slice none 0 0]), 3, 56) := by kernel_rfl
/-- One more, of an array of one. -/
theorem Row.one {P : Program} {w : World} {base e size n : Nat} {v : Value} {f : Nat → Value} (cs : Array Value) (hR : Row w base e size v n f) (hbase : base ≤ w.heap.size) (t : TypeId) (i : TypeInfo) (z : Value) (bytes : Nat) (ht : P.underlying t = some (.slice e)) (hi : P.info? e = some i) (hz : i.zero = some z)
    (hsize : i.size = size) (hby : i.bytes = bytes) (hzs : z.cells.size = size) (hsz : 0 < size) (g : Nat → Value) (hcs : ∀ j, j < size → cs[j]? = some (g j)) (h1 : ∀ j, j < size → (g j).oneCell' = true) (h63 : n + 1 ≤ maxLen) (hbytes : (5 * (n + 1) + 768) * bytes ≤ 1125899906842624) {m : Nat} (hm : m = w.heap.size) (ty : TypeId) :
    ∃ v' w', (Builtin.append_ #[t, t] ty #[v, .slice (some ⟨m, 0, none⟩) 1 1]).run P (w.alloc (.cells cs e)) = .ok v' w' ∧ Row w' base e size v' (n + 1) (fun j => if j < n * size then f j else g (j - n * size)) ∧ (w.alloc (.cells cs e)).grownBy w' v.ownBlock := by
  subst hm
  obtain ⟨v', w', h1, h2, h3, -⟩ := (hR.kept (below1 w (.cells cs e))).far t ty i z bytes ht hi hz hsize hby hzs hsz (some ⟨w.heap.size, 0, none⟩) 1 1 g
    (fun j hj => ⟨w.heap.size, 0, rfl, by rw [World.cell?_alloc_at _ _ _ _ rfl, Nat.zero_add]; simpa using hcs j (by omega)⟩) (fun h => by cases h) (fun j hj => h1 j (by omega)) h63 hbytes (by simp; omega)
  exact ⟨v', w', h1, h2, h3⟩
end Go.Proofs.Ytjjggefmmeminab
