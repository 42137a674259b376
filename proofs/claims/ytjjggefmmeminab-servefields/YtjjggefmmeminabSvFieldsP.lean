/-
  Of right services what is found has each field that was asked for, once, in turn: plain mathematics.
-/
import Derived.Test.YtjjggefmmeminabSvSame
import Derived.Test.YtjjggefmmeminabMtTurn
namespace Go.Proofs.Ytjjggefmmeminab
open Go.RowKit Go.Sort

theorem valsTo_uniq {x : LThing} {f : ByteArray} {j : Nat} (h : ∀ i, i < x.nv → (eqs (x.V i).field f = true ↔ i = j)) : ∀ k, k ≤ x.nv → valsTo x f k = if j < k then [x.V j] else []
  | 0, _ => by simp [valsTo]
  | k + 1, hk => by
    have ih := valsTo_uniq h k (by omega)
    by_cases e : k = j
    · subst e
      rw [valsTo_hit ((h k (by omega)).2 rfl), ih, if_neg (by omega), if_pos (by omega)]; rfl
    · have hm : eqs (x.V k).field f = false := by
        cases e' : eqs (x.V k).field f
        · rfl
        · exact absurd ((h k (by omega)).1 e') e
      rw [valsTo_miss hm, ih]
      by_cases e2 : j < k
      · rw [if_pos e2, if_pos (by omega)]
      · rw [if_neg e2, if_neg (by omega)]

/-- A thing that goes with a type's fields. -/
structure Goes (x : LThing) (nf : Nat) (G : Nat → LField) : Prop where
  nv : x.nv = nf
  name : ∀ j, j < nf → (x.V j).field = (G j).name
  one : ∀ i j, i < nf → j < nf → (G i).name = (G j).name → i = j
theorem Goes.vals {x : LThing} {nf : Nat} {G : Nat → LField} (h : Goes x nf G) {f : ByteArray} (hf : ¬ fieldIdx nf G f < 0) : ∃ v, valsOf1 x f = [v] ∧ v.field = f := by
  unfold fieldIdx at hf
  rcases idx_cases nf (fun i => eqs (G i).name f) with ⟨e, -⟩ | ⟨j, hj, -, hp, -⟩
  · rw [e] at hf; omega
  · have hp' := eqs_iff.1 hp
    refine ⟨x.V j, ?_, (h.name j hj).trans hp'⟩
    rw [← valsTo_all, valsTo_uniq (j := j) (fun i hi => ?_) x.nv (Nat.le_refl _), if_pos (by rw [h.nv]; exact hj)]
    have hi' : i < nf := by rw [← h.nv]; exact hi
    rw [eqs_iff, h.name i hi', ← hp']
    exact ⟨fun e => h.one i j hi' hj e, fun e => by rw [e]⟩
theorem Goes.all {x : LThing} {nf : Nat} {G : Nat → LField} (h : Goes x nf G) {F : Nat → ByteArray} : ∀ m, (∀ i, i < m → ¬ fieldIdx nf G (F i) < 0) → (valsL x m F).length = m ∧ ∀ k, k < m → (nthV (valsL x m F) k).field = F k
  | 0, _ => ⟨rfl, fun k hk => absurd hk (Nat.not_lt_zero _)⟩
  | m + 1, hf => by
    obtain ⟨h1, h2⟩ := Goes.all h m (fun i hi => hf i (by omega))
    obtain ⟨v, e, hv⟩ := h.vals (hf m (by omega))
    rw [valsL_succ, e]
    refine ⟨by simp [h1], fun k hk => ?_⟩
    by_cases e2 : k < m
    · rw [nthV_left (by rw [h1]; exact e2)]; exact h2 k e2
    · have e3 : k = (valsL x m F).length := by omega
      rw [e3, nthV_last, hv, h1]

theorem valOf_zero {e : Bool} {k : Int} {n t : Nat} {x : Int} (h : valOf e k n t x = 0) : e = true := by
  cases e
  · rw [val_6 rfl] at h; cases h
  · rfl
/-- A service without its changes. -/
def toS (s : LServ) : SServ := ⟨s.ta, s.nt, s.tcap, s.T, s.ca, s.nc, s.ccap, s.xa, s.nx, s.xcap, s.X⟩
theorem ServsAt.toS {w : World} {a : Option Addr} {n : Nat} {V : Nat → LServ} (h : ServsAt w a n V) : SServsAt w a n (fun i => toS (V i)) :=
  ⟨h.1, fun i hi => let ⟨b, o, e, s⟩ := h.2 i hi; ⟨b, o, e, ⟨s.c0, s.c1, s.c2, s.ok.types, s.ok.things, s.ok.tcap, s.ok.xcap⟩⟩⟩

theorem wrongF_serv {n : Nat} {V : Nat → LServ} (h : (wrongF n V).1 = 0) {i : Nat} (hi : i < n) : wrongServ (V i) = 0 := by
  unfold wrongF at h
  split at h
  · cases h
  · rcases fault_cases n (fun i => wrongServ (V i)) with ⟨-, h2⟩ | ⟨k, -, h1, h2, -⟩
    · exact h2 i hi
    · rw [h1] at h; exact absurd h h2
/-- Of a right service a thing goes with its type. -/
theorem goes_of {s : LServ} (h : wrongServ s = 0) {typ : ByteArray} {k t : Nat} (hk : k < s.nx) (htyp : eqs (s.X k).type typ = true) (ht : t < s.nt) (hf : find s.nt s.T typ = (t : Int)) : Goes (s.X k) (s.T t).nf (s.T t).F := by
  unfold wrongServ at h
  have hsee : (seeE s).1 = 0 := by
    by_cases e : (seeE s).1 = 0
    · exact e
    · rw [if_pos e] at h; exact h
  rw [if_neg (fun e => e hsee)] at h
  have hschema : (wrongS s.nt s.T).1 = 0 := by
    unfold seeE seeF at hsee
    by_cases e : (wrongS s.nt s.T).1 = 0
    · exact e
    · rw [if_pos e] at hsee; exact absurd hsee e
  have hQ := (right_iff.1 hschema).fld t ht
  have hth : wrongThing s.nt s.T s.X k = 0 := by
    unfold wrongThings at h
    split at h
    · cases h
    · rcases fault_cases s.nx (wrongThing s.nt s.T s.X) with ⟨-, h2⟩ | ⟨j, -, h1, h2, -⟩
      · exact h2 k hk
      · rw [h1] at h; exact absurd h h2
  have htype := eqs_iff.1 htyp
  unfold wrongThing at hth
  rw [htype, hf, if_neg (by omega)] at hth
  split at hth
  · cases hth
  · split at hth
    · cases hth
    · rename_i hnv
      have hnv' : (s.X k).nv = (s.T t).nf := by
        have := Decidable.not_not.1 hnv
        simpa using this
      simp only [Int.toNat_natCast] at hth
      refine ⟨hnv', fun j hj => ?_, fun i j hi hj e => ?_⟩
      · rcases fault_cases (s.T t).nf (fun j => wrongVal ((s.T t).F j) ((s.X k).V j)) with ⟨-, h2⟩ | ⟨q, -, h1, h2, -⟩
        · have := h2 j hj
          unfold wrongVal at this
          exact eqs_iff.1 (valOf_zero this)
        · rw [h1] at hth; exact absurd hth h2
      · rcases Nat.lt_trichotomy i j with h | h | h
        · exact absurd e (hQ.one i j h hj)
        · exact h
        · exact absurd e.symm (hQ.one j i h hi)
theorem fieldE_fits {nf : Nat} {G : Nat → LField} {F : Nat → ByteArray} {i : Nat} (h : fieldE nf G F i = 0) : ¬ fieldIdx nf G (F i) < 0 := by
  intro h'
  unfold fieldE at h
  rw [if_pos h'] at h
  cases h
/-- What is found has each field, what is not has none. -/
theorem reply_fields {n : Nat} {V : Nat → LServ} {q : LReq} (hw : wrongQ n (fun i => toS (V i)) q = 0) (h : (wrongF n V).1 = 0) (key : ByteArray) :
    (foundI (toS (V q.svc.toNat)) q.type key = false → valsL (thingOf (toS (V q.svc.toNat)) q.type key) q.nf q.F = []) ∧
    (foundI (toS (V q.svc.toNat)) q.type key = true → (valsL (thingOf (toS (V q.svc.toNat)) q.type key) q.nf q.F).length = q.nf ∧ ∀ k, k < q.nf → (nthV (valsL (thingOf (toS (V q.svc.toNat)) q.type key) q.nf q.F) k).field = q.F k) := by
  obtain ⟨c, t, hc, hcn, ht, hf, hfe, -⟩ := wrongQ_zero hw
  have hsv : q.svc.toNat = c := by omega
  rw [hsv]
  rcases idx_cases (toS (V c)).nx (sameThing (toS (V c)).X q.type key) with ⟨hi, -⟩ | ⟨k, hk, hi, hp, -⟩
  · obtain ⟨f1, f2⟩ := foundI_none (s := toS (V c)) (typ := q.type) (key := key) (by rw [hi]; decide)
    rw [f1, f2]
    exact ⟨fun _ => valsL_noThing _ _, fun h => by cases h⟩
  · obtain ⟨f1, f2⟩ := foundI_some hi
    rw [f1, f2]
    refine ⟨fun h => (by cases h), fun _ => ?_⟩
    unfold sameThing at hp
    rw [Bool.and_eq_true] at hp
    have hg : Goes ((V c).X k) ((V c).T t).nf ((V c).T t).F := goes_of (wrongF_serv h hcn) hk hp.1 ht hf
    exact Goes.all (x := (V c).X k) hg q.nf (fun i hi => fieldE_fits (hfe i hi))
end Go.Proofs.Ytjjggefmmeminab
