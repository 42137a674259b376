/-
  Requests, and what is wrong with one; what a service answers: plain mathematics.
-/
import Derived.Test.YtjjggefmmeminabMorePlain
import Derived.Test.YtjjggefmmeminabVals
import Derived.Test.YtjjggefmmeminabRowm
namespace Go.Proofs.Ytjjggefmmeminab
open Go.RowKit Go.Sort

/-- A service, as it lies in memory; its changes are not looked at. -/
structure SServ where
  ta : Option Addr
  nt : Nat
  tcap : Nat
  T : Nat → LType
  ca : Option Addr
  nc : Nat
  ccap : Nat
  xa : Option Addr
  nx : Nat
  xcap : Nat
  X : Nat → LThing
structure SServAt (w : World) (b o : Nat) (s : SServ) : Prop where
  c0 : w.cell? ⟨b, o, none⟩ = some (.slice s.ta s.nt s.tcap)
  c1 : w.cell? ⟨b, o + 1, none⟩ = some (.slice s.ca s.nc s.ccap)
  c2 : w.cell? ⟨b, o + 2, none⟩ = some (.slice s.xa s.nx s.xcap)
  types : TypesAt w s.ta s.nt s.T
  things : ThingsAt w s.xa s.nx s.X
  tcap : s.nt ≤ s.tcap
  xcap : s.nx ≤ s.xcap
theorem SServAt.kept {w w' : World} {b o : Nat} {s : SServ} (h : SServAt w b o s) (hB : Below w.heap.size w w') : SServAt w' b o s :=
  ⟨keptCell hB h.c0, keptCell hB h.c1, keptCell hB h.c2, h.types.kept hB, h.things.kept hB, h.tcap, h.xcap⟩
def SServsAt (w : World) (a : Option Addr) (n : Nat) (V : Nat → SServ) : Prop := n ≤ maxLen ∧ ∀ i, i < n → ∃ b o, a = some ⟨b, o, none⟩ ∧ SServAt w b (o + i * 3) (V i)
theorem SServsAt.kept {w w' : World} {a : Option Addr} {n : Nat} {V : Nat → SServ} (h : SServsAt w a n V) (hB : Below w.heap.size w w') : SServsAt w' a n V :=
  ⟨h.1, fun i hi => let ⟨b, o, e, s⟩ := h.2 i hi; ⟨b, o, e, s.kept hB⟩⟩
/-- Things that a machine may hold. -/
def LightX (x : LThing) : Prop := x.nv * 56 ≤ 140737488355328 ∧ ∀ k, k < x.nv → (x.V k).nk * 16 ≤ 140737488355328
def LightS (s : SServ) : Prop := ∀ i, i < s.nx → LightX (s.X i)

/-- A request, as it lies in memory. -/
structure LReq where
  svc : Int
  type : ByteArray
  ka : Option Addr
  nk : Nat
  kcap : Nat
  K : Nat → ByteArray
  fa : Option Addr
  nf : Nat
  fcap : Nat
  F : Nat → ByteArray
def reqV (q : LReq) : Value := .agg #[.int .i64 q.svc, .string q.type, .slice q.ka q.nk q.kcap, .slice q.fa q.nf q.fcap]
structure ReqOk (w : World) (q : LReq) : Prop where
  keys : KeysAt w q.ka q.nk q.K
  fields : KeysAt w q.fa q.nf q.F
  svc : (Lit.int .i64 q.svc).wf = true
  kcap : q.nk ≤ q.kcap
  fcap : q.nf ≤ q.fcap
  small : Small q.type
theorem ReqOk.kept {w w' : World} {q : LReq} (h : ReqOk w q) (hB : Below w.heap.size w w') : ReqOk w' q := ⟨h.keys.kept hB, h.fields.kept hB, h.svc, h.kcap, h.fcap, h.small⟩

/-- Did the text stand ahead? -/
def stood (K : Nat → ByteArray) (i : Nat) : Bool := decide (0 ≤ idx i (fun j => eqs (K j) (K i)))
theorem stood_true {K : Nat → ByteArray} {i : Nat} : stood K i = true ↔ ∃ j, j < i ∧ K j = K i := by
  unfold stood
  rw [decide_eq_true_iff]
  rcases idx_cases i (fun j => eqs (K j) (K i)) with ⟨h, hb⟩ | ⟨k, hk, h, hp, -⟩
  · rw [h]
    constructor
    · intro h'; omega
    · rintro ⟨j, hj, e⟩
      have h2 := hb j hj
      simp only [e] at h2
      rw [eqs_iff.2 rfl] at h2
      cases h2
  · rw [h]
    exact ⟨fun _ => ⟨k, hk, eqs_iff.1 hp⟩, fun _ => by omega⟩
theorem stood_false {K : Nat → ByteArray} {i : Nat} : stood K i = false ↔ ∀ j, j < i → K j ≠ K i := by
  rw [← Bool.not_eq_true, stood_true]
  constructor
  · intro h j hj e; exact h ⟨j, hj, e⟩
  · rintro h ⟨j, hj, e⟩; exact h j hj e

/-- What is wrong with the field number i that is asked for, of a type with these fields. -/
def fieldE (nf : Nat) (G : Nat → LField) (F : Nat → ByteArray) (i : Nat) : Int := if fieldIdx nf G (F i) < 0 then 7 else if stood F i then 6 else 0
def fieldsE (nf : Nat) (G : Nat → LField) (m : Nat) (F : Nat → ByteArray) : Int := (fault m (fieldE nf G F)).1
/-- Does a key stand twice? -/
def twice (n : Nat) (K : Nat → ByteArray) : Bool := decide (0 ≤ idx n (stood K))
theorem twice_true {n : Nat} {K : Nat → ByteArray} : twice n K = true ↔ ∃ i, i < n ∧ stood K i = true := by
  unfold twice
  rw [decide_eq_true_iff]
  rcases idx_cases n (stood K) with ⟨h, hb⟩ | ⟨k, hk, h, hp, -⟩
  · rw [h]
    exact ⟨fun h' => by omega, fun ⟨i, hi, e⟩ => by rw [hb i hi] at e; cases e⟩
  · rw [h]
    exact ⟨fun _ => ⟨k, hk, hp⟩, fun _ => by omega⟩
theorem twice_false {n : Nat} {K : Nat → ByteArray} : twice n K = false ↔ ∀ i, i < n → stood K i = false := by
  rw [← Bool.not_eq_true, twice_true]
  constructor
  · intro h i hi
    cases e : stood K i
    · rfl
    · exact absurd ⟨i, hi, e⟩ h
  · rintro h ⟨i, hi, e⟩
    rw [h i hi] at e; cases e

/-- What is wrong with a request to a service. -/
def wrongR (s : SServ) (q : LReq) : Int :=
  if find s.nt s.T q.type < 0 then 1
  else if fieldsE (s.T (find s.nt s.T q.type).toNat).nf (s.T (find s.nt s.T q.type).toNat).F q.nf q.F ≠ 0 then fieldsE (s.T (find s.nt s.T q.type).toNat).nf (s.T (find s.nt s.T q.type).toNat).F q.nf q.F
  else if twice q.nk q.K then 6 else 0
/-- What is wrong with a request. -/
def wrongQ (n : Nat) (V : Nat → SServ) (q : LReq) : Int := if q.svc < 0 ∨ (n : Int) ≤ q.svc then 5 else wrongR (V q.svc.toNat) q

theorem find_cases (n : Nat) (T : Nat → LType) (name : ByteArray) : find n T name < 0 ∨ ∃ t : Nat, t < n ∧ find n T name = (t : Int) := by
  rcases idx_cases n (fun i => eqs (T i).name name) with ⟨h, _⟩ | ⟨k, hk, h, _⟩
  · left; unfold find; rw [h]; omega
  · exact .inr ⟨k, hk, h⟩
theorem wrongQ_none {n : Nat} {V : Nat → SServ} {q : LReq} (h : q.svc < 0 ∨ (n : Int) ≤ q.svc) : wrongQ n V q = 5 := by unfold wrongQ; rw [if_pos h]
theorem wrongQ_kind {n c : Nat} {V : Nat → SServ} {q : LReq} (hc : q.svc = (c : Int)) (h : c < n) (hf : find (V c).nt (V c).T q.type < 0) : wrongQ n V q = 1 := by
  unfold wrongQ wrongR
  rw [if_neg (by omega), hc, Int.toNat_natCast, if_pos hf]
theorem wrongQ_fields {n c t : Nat} {V : Nat → SServ} {q : LReq} (hc : q.svc = (c : Int)) (h : c < n) (hf : find (V c).nt (V c).T q.type = (t : Int)) (he : fieldsE ((V c).T t).nf ((V c).T t).F q.nf q.F ≠ 0) : wrongQ n V q = fieldsE ((V c).T t).nf ((V c).T t).F q.nf q.F := by
  unfold wrongQ wrongR
  rw [if_neg (by omega), hc, Int.toNat_natCast, hf, if_neg (by omega), Int.toNat_natCast, if_pos he]
theorem wrongQ_keys {n c t : Nat} {V : Nat → SServ} {q : LReq} (hc : q.svc = (c : Int)) (h : c < n) (hf : find (V c).nt (V c).T q.type = (t : Int)) (he : fieldsE ((V c).T t).nf ((V c).T t).F q.nf q.F = 0) : wrongQ n V q = if twice q.nk q.K then 6 else 0 := by
  unfold wrongQ wrongR
  rw [if_neg (by omega), hc, Int.toNat_natCast, hf, if_neg (by omega), Int.toNat_natCast, if_neg (by omega)]
/-- What a right request is. -/
theorem wrongQ_zero {n : Nat} {V : Nat → SServ} {q : LReq} (h : wrongQ n V q = 0) : ∃ c t : Nat, q.svc = (c : Int) ∧ c < n ∧ t < (V c).nt ∧ find (V c).nt (V c).T q.type = (t : Int) ∧ (∀ i, i < q.nf → fieldE ((V c).T t).nf ((V c).T t).F q.F i = 0) ∧ ∀ i, i < q.nk → stood q.K i = false := by
  by_cases hs : q.svc < 0 ∨ (n : Int) ≤ q.svc
  · rw [wrongQ_none hs] at h; cases h
  · obtain ⟨c, hc⟩ : ∃ c : Nat, q.svc = (c : Int) := ⟨q.svc.toNat, by omega⟩
    have hcn : c < n := by omega
    rcases find_cases (V c).nt (V c).T q.type with hf | ⟨t, ht, hf⟩
    · rw [wrongQ_kind hc hcn hf] at h; cases h
    · by_cases he : fieldsE ((V c).T t).nf ((V c).T t).F q.nf q.F = 0
      · rw [wrongQ_keys hc hcn hf he] at h
        refine ⟨c, t, hc, hcn, ht, hf, ?_, ?_⟩
        · rcases fault_cases q.nf (fieldE ((V c).T t).nf ((V c).T t).F q.F) with ⟨-, h2⟩ | ⟨k, hk, h1, h2, -⟩
          · exact h2
          · unfold fieldsE at he; rw [h1] at he; exact absurd he h2
        · apply twice_false.1
          cases e : twice q.nk q.K
          · rfl
          · rw [e] at h; cases h
      · rw [wrongQ_fields hc hcn hf he] at h; exact absurd h he

/-! What is answered -/
/-- The vals of field f. -/
def valsOf1 (x : LThing) (f : ByteArray) : List LVal := ((List.range x.nv).map x.V).filter (fun v => eqs v.field f)
/-- Field by field. -/
def valsL (x : LThing) (m : Nat) (F : Nat → ByteArray) : List LVal := (List.range m).flatMap (fun i => valsOf1 x (F i))
theorem valsL_succ (x : LThing) (m : Nat) (F : Nat → ByteArray) : valsL x (m + 1) F = valsL x m F ++ valsOf1 x (F m) := by
  unfold valsL; rw [List.range_succ, List.flatMap_append]; simp
theorem valsL_zero (x : LThing) (F : Nat → ByteArray) : valsL x 0 F = [] := rfl
/-- The first vals of field f. -/
def valsTo (x : LThing) (f : ByteArray) (k : Nat) : List LVal := ((List.range k).map x.V).filter (fun v => eqs v.field f)
theorem valsTo_all (x : LThing) (f : ByteArray) : valsTo x f x.nv = valsOf1 x f := rfl
theorem valsTo_hit {x : LThing} {f : ByteArray} {k : Nat} (h : eqs (x.V k).field f = true) : valsTo x f (k + 1) = valsTo x f k ++ [x.V k] := by
  unfold valsTo; rw [List.range_succ, List.map_append, List.filter_append]; simp [h]
theorem valsTo_miss {x : LThing} {f : ByteArray} {k : Nat} (h : eqs (x.V k).field f = false) : valsTo x f (k + 1) = valsTo x f k := by
  unfold valsTo; rw [List.range_succ, List.map_append, List.filter_append]; simp [h]

/-- Of different fields no more vals are got than there are. -/
theorem valsL_count (x : LThing) (F : Nat → ByteArray) : ∀ m, (∀ i, i < m → stood F i = false) → (valsL x m F).length = ((List.range x.nv).map x.V).countP (fun v => (List.range m).any (fun i => eqs v.field (F i)))
  | 0, _ => by simp [valsL_zero]
  | m + 1, h => by
    rw [valsL_succ, List.length_append, valsL_count x F m (fun i hi => h i (by omega)), valsOf1, ← List.countP_eq_length_filter]
    generalize (List.range x.nv).map x.V = l
    have hs := stood_false.1 (h m (Nat.lt_succ_self m))
    induction l with
    | nil => rfl
    | cons v l ih =>
      simp only [List.countP_cons, List.range_succ, List.any_append] at ih ⊢
      cases e1 : (List.range m).any (fun i => eqs v.field (F i)) with
      | true =>
        have e2 : eqs v.field (F m) = false := by
          rw [List.any_eq_true] at e1
          obtain ⟨j, hj, hj2⟩ := e1
          cases e : eqs v.field (F m)
          · rfl
          · exact absurd ((eqs_iff.1 hj2).symm.trans (eqs_iff.1 e)) (hs j (by simpa using hj))
        simp [e2] at ih ⊢
        omega
      | false =>
        simp at ih ⊢
        omega
theorem valsL_few {x : LThing} {m : Nat} {F : Nat → ByteArray} (h : ∀ i, i < m → stood F i = false) : (valsL x m F).length ≤ x.nv := by
  rw [valsL_count x F m h]
  have := List.countP_le_length (p := fun v => (List.range m).any (fun i => eqs v.field (F i))) (l := (List.range x.nv).map x.V)
  simpa using this
theorem valsL_mono (x : LThing) (F : Nat → ByteArray) {k m : Nat} (h : k ≤ m) : (valsL x k F).length ≤ (valsL x m F).length := by
  induction m with
  | zero => simp [show k = 0 by omega]
  | succ m ih =>
    by_cases e : k = m + 1
    · subst e; exact Nat.le_refl _
    · rw [valsL_succ, List.length_append]
      have := ih (by omega)
      omega
theorem valsTo_few (x : LThing) (f : ByteArray) {k : Nat} (h : k ≤ x.nv) : (valsTo x f k).length ≤ (valsOf1 x f).length := by
  unfold valsTo valsOf1
  rw [show x.nv = k + (x.nv - k) by omega, List.range_add, List.map_append, List.filter_append, List.length_append]
  omega

/-- Nothing, as a thing. -/
def noThing : LThing := ⟨⟨#[]⟩, ⟨#[]⟩, none, 0, 0, fun _ => ⟨⟨#[]⟩, ⟨#[]⟩, none, 0, 0, fun _ => ⟨#[]⟩⟩⟩
theorem valsL_noThing (m : Nat) (F : Nat → ByteArray) : valsL noThing m F = [] := by
  induction m with
  | zero => rfl
  | succ m ih => rw [valsL_succ, ih]; rfl
/-- Is there such a thing? -/
def foundI (s : SServ) (typ key : ByteArray) : Bool := decide (0 ≤ idx s.nx (sameThing s.X typ key))
/-- The thing, or nothing. -/
def thingOf (s : SServ) (typ key : ByteArray) : LThing := if idx s.nx (sameThing s.X typ key) < 0 then noThing else s.X (idx s.nx (sameThing s.X typ key)).toNat
theorem foundI_some {s : SServ} {typ key : ByteArray} {k : Nat} (h : idx s.nx (sameThing s.X typ key) = (k : Int)) : foundI s typ key = true ∧ thingOf s typ key = s.X k := by
  unfold foundI thingOf; rw [h, if_neg (by omega), Int.toNat_natCast]; exact ⟨decide_eq_true (by omega), rfl⟩
theorem foundI_none {s : SServ} {typ key : ByteArray} (h : idx s.nx (sameThing s.X typ key) < 0) : foundI s typ key = false ∧ thingOf s typ key = noThing := by
  unfold foundI thingOf; rw [if_pos h]; exact ⟨decide_eq_false (by omega), rfl⟩
end Go.Proofs.Ytjjggefmmeminab
