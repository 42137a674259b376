/-
  What is asked, as a tree of picks: what is wrong with it, by itself and of parts.
-/
import Derived.Test.YtjjggefmmeminabNamed
import Derived.Test.YtjjggefmmeminabMoreIdx
namespace Go.Proofs.Ytjjggefmmeminab
open Go.RowKit Go.Sort Go.PlainAid

/-- A pick with lists below it, at most so many below one another: what it is called, its field, its picks. -/
def Pick : Nat → Type
  | 0 => Empty
  | d + 1 => ByteArray × ByteArray × List (Pick d)
def mkPick {d : Nat} (s f : ByteArray) (l : List (Pick d)) : Pick (d + 1) := (s, f, l)
def nick {d : Nat} (p : Pick (d + 1)) : ByteArray := Prod.fst (show ByteArray × ByteArray × List (Pick d) from p)
def pfield {d : Nat} (p : Pick (d + 1)) : ByteArray := Prod.fst (Prod.snd (show ByteArray × ByteArray × List (Pick d) from p))
def subs {d : Nat} (p : Pick (d + 1)) : List (Pick d) := Prod.snd (Prod.snd (show ByteArray × ByteArray × List (Pick d) from p))
theorem pick_eta {d : Nat} (p : Pick (d + 1)) : mkPick (nick p) (pfield p) (subs p) = p := rfl
theorem nil0 : ∀ L : List (Pick 0), L = []
  | [] => rfl
  | p :: _ => Empty.elim p
theorem hidI {p : Prop} (h : p) : Hid p := h
def emp (s : ByteArray) : Bool := decide (s.size = 0)
theorem emp_eq (s : ByteArray) : s.toList.isEmpty = emp s := by
  unfold emp
  by_cases h : s.size = 0
  · rw [decide_eq_true h, List.isEmpty_iff]; exact toList_nil.2 h
  · rw [decide_eq_false h]
    cases he : s.toList.isEmpty with
    | false => rfl
    | true => exact absurd (toList_nil.1 (List.isEmpty_iff.1 he)) h
/-- What a pick is called in the answer. -/
def called {d : Nat} (p : Pick (d + 1)) : ByteArray := if emp (nick p) then pfield p else nick p
def dP {d : Nat} : Pick (d + 1) := mkPick ⟨#[]⟩ ⟨#[]⟩ []
def pickN {d : Nat} (L : List (Pick (d + 1))) (i : Nat) : Pick (d + 1) := L.getD i dP
theorem pickN_get {d : Nat} {L : List (Pick (d + 1))} {i : Nat} (h : i < L.length) : pickN L i = L[i] := by simp [pickN, List.getD, h]
theorem drop_pick {d : Nat} {L : List (Pick (d + 1))} {i : Nat} (h : i < L.length) : L.drop i = pickN L i :: L.drop (i + 1) := by rw [pickN_get h]; exact List.drop_eq_getElem_cons h
theorem take_pick {d : Nat} {L : List (Pick (d + 1))} {i : Nat} (h : i < L.length) : L.take (i + 1) = L.take i ++ [pickN L i] := by rw [pickN_get h]; exact (List.take_append_getElem h).symm

/-- One behind the other, till something is wrong: what, and how many there are then. -/
def runW {α : Type} (f : Nat → α → Int × Nat) : Nat → List α → Int × Nat
  | n, [] => (0, n)
  | n, p :: L => if (f n p).1 ≠ 0 then f n p else runW f (f n p).2 L
theorem runR_le {α : Type} {f : Nat → α → Int × Nat} (hf : ∀ n p, n ≤ 60 → (f n p).2 ≤ 61 ∧ ((f n p).1 = 0 → (f n p).2 ≤ 60)) : ∀ (L : List α) (n : Nat), n ≤ 60 → (runW f n L).2 ≤ 61 ∧ ((runW f n L).1 = 0 → (runW f n L).2 ≤ 60)
  | [], n, hn => ⟨by show n ≤ 61; omega, fun _ => hn⟩
  | p :: L, n, hn => by
    have h1 := hf n p hn
    rw [runW]
    by_cases h : (f n p).1 = 0
    · rw [if_neg (by simp [h])]; exact runR_le hf L _ (h1.2 h)
    · rw [if_pos h]; exact h1
theorem runR_take {α : Type} {f : Nat → α → Int × Nat} : ∀ (L : List α) (n k : Nat), (runW f n L).1 = 0 → (runW f n (L.take k)).1 = 0
  | [], n, k, h => by simpa using h
  | p :: L, n, 0, _ => rfl
  | p :: L, n, k + 1, h => by
    rw [List.take_succ_cons, runW]
    rw [runW] at h
    by_cases h0 : (f n p).1 = 0
    · rw [if_neg (by simp [h0])] at h ⊢
      exact runR_take L _ k h
    · rw [if_pos h0] at h
      exact absurd h h0

/-- Are a pick's own names none? -/
def badName {d : Nat} (p : Pick (d + 1)) : Bool := !named (pfield p) || (!emp (nick p) && !named (nick p))
/-- What is wrong with picks of a list so deep, behind n others; and how many there are then. -/
def wR : (d : Nat) → Nat → Nat → List (Pick d) → Int × Nat
  | 0, _, n, _ => (0, n)
  | d + 1, deep, n, L => runW (fun n p => if 60 < n + 1 then (4, n + 1) else if badName p then (6, n + 1) else if (subs p).isEmpty then (0, n + 1) else if 8 < deep + 1 then (3, n + 1) else wR d (deep + 1) (n + 1) (subs p)) n L
/-- .. with a list. -/
def wL (d deep n : Nat) (L : List (Pick d)) : Int × Nat := if 8 < deep then (3, n) else if L.isEmpty then (4, n) else wR d deep n L
/-- .. with a pick. -/
def wP (d deep n : Nat) (p : Pick (d + 1)) : Int × Nat := if 60 < n + 1 then (4, n + 1) else if badName p then (6, n + 1) else if (subs p).isEmpty then (0, n + 1) else wL d (deep + 1) (n + 1) (subs p)
theorem wR_succ (d deep n : Nat) (L : List (Pick (d + 1))) : wR (d + 1) deep n L = runW (wP d deep) n L := by
  have e : (fun n (p : Pick (d + 1)) => if 60 < n + 1 then ((4 : Int), n + 1) else if badName p then (6, n + 1) else if (subs p).isEmpty then (0, n + 1) else if 8 < deep + 1 then (3, n + 1) else wR d (deep + 1) (n + 1) (subs p)) = wP d deep := by
    funext n p
    unfold wP wL
    by_cases h : (subs p).isEmpty = true
    · simp [h]
    · simp [h]
  rw [wR, e]
theorem wR_nil (d deep n : Nat) : wR d deep n [] = (0, n) := by
  cases d with
  | zero => rfl
  | succ d => rw [wR_succ]; rfl
theorem wR_cons (d deep n : Nat) (p : Pick (d + 1)) (L : List (Pick (d + 1))) : wR (d + 1) deep n (p :: L) = if (wP d deep n p).1 ≠ 0 then wP d deep n p else wR (d + 1) deep (wP d deep n p).2 L := by rw [wR_succ, runW, wR_succ]

theorem wR_le : ∀ (d deep n : Nat) (L : List (Pick d)), n ≤ 60 → (wR d deep n L).2 ≤ 61 ∧ ((wR d deep n L).1 = 0 → (wR d deep n L).2 ≤ 60)
  | 0, _, n, _, hn => ⟨by show n ≤ 61; omega, fun _ => hn⟩
  | d + 1, deep, n, L, hn => by
    rw [wR_succ]
    refine runR_le (fun n p hn => ?_) L n hn
    unfold wP wL
    by_cases h1 : 60 < n + 1
    · rw [if_pos h1]; exact ⟨by show n + 1 ≤ 61; omega, fun h => by cases h⟩
    rw [if_neg h1]
    by_cases h2 : badName p = true
    · rw [if_pos h2]; exact ⟨by show n + 1 ≤ 61; omega, fun h => by cases h⟩
    rw [if_neg h2]
    by_cases h3 : (subs p).isEmpty = true
    · rw [if_pos h3]; exact ⟨by show n + 1 ≤ 61; omega, fun _ => by show n + 1 ≤ 60; omega⟩
    rw [if_neg h3]
    by_cases h4 : 8 < deep + 1
    · rw [if_pos h4]; exact ⟨by show n + 1 ≤ 61; omega, fun h => by cases h⟩
    rw [if_neg h4, if_neg h3]
    exact wR_le d (deep + 1) (n + 1) (subs p) (by omega)
theorem wL_le (d deep n : Nat) (L : List (Pick d)) (hn : n ≤ 60) : (wL d deep n L).2 ≤ 61 ∧ ((wL d deep n L).1 = 0 → (wL d deep n L).2 ≤ 60) := by
  unfold wL
  by_cases h1 : 8 < deep
  · rw [if_pos h1]; exact ⟨by show n ≤ 61; omega, fun h => by cases h⟩
  rw [if_neg h1]
  by_cases h2 : L.isEmpty = true
  · rw [if_pos h2]; exact ⟨by show n ≤ 61; omega, fun h => by cases h⟩
  rw [if_neg h2]
  exact wR_le d deep n L hn
theorem wP_le (d deep n : Nat) (p : Pick (d + 1)) (hn : n ≤ 60) : (wP d deep n p).2 ≤ 61 ∧ ((wP d deep n p).1 = 0 → (wP d deep n p).2 ≤ 60) := by
  unfold wP
  by_cases h1 : 60 < n + 1
  · rw [if_pos h1]; exact ⟨by show n + 1 ≤ 61; omega, fun h => by cases h⟩
  rw [if_neg h1]
  by_cases h2 : badName p = true
  · rw [if_pos h2]; exact ⟨by show n + 1 ≤ 61; omega, fun h => by cases h⟩
  rw [if_neg h2]
  by_cases h3 : (subs p).isEmpty = true
  · rw [if_pos h3]; exact ⟨by show n + 1 ≤ 61; omega, fun _ => by show n + 1 ≤ 60; omega⟩
  rw [if_neg h3]
  exact wL_le d _ _ _ (by omega)

/-- What is wrong with what is asked. -/
def wA (d : Nat) (type key : ByteArray) (L : List (Pick d)) : Int := if !named type || !named key then 6 else (wL d 1 0 L).1

/-- A part of a schema of all, as it lies in memory. -/
structure LPart where
  name : ByteArray
  fa : Option Addr
  nf : Nat
  fcap : Nat
  F : Nat → LField
  oa : Option Addr
  no : Nat
  ocap : Nat
  ha : Option Addr
  nh : Nat
  hcap : Nat
def partIdx (n : Nat) (P : Nat → LPart) (name : ByteArray) : Int := idx n (fun i => eqs (P i).name name)

/-- One behind the other, till something is wrong; each is told what those ahead are called. -/
def runC {α : Type} (f : List ByteArray → α → Int) (nm : α → ByteArray) : List ByteArray → List α → Int
  | _, [] => 0
  | ahead, p :: L => if f ahead p ≠ 0 then f ahead p else runC f nm (ahead ++ [nm p]) L
theorem runC_take {α : Type} {f : List ByteArray → α → Int} {nm : α → ByteArray} : ∀ (L : List α) (ahead : List ByteArray) (k : Nat), runC f nm ahead L = 0 → runC f nm ahead (L.take k) = 0
  | [], ahead, k, h => by simpa using h
  | p :: L, ahead, 0, _ => rfl
  | p :: L, ahead, k + 1, h => by
    rw [List.take_succ_cons, runC]
    rw [runC] at h
    by_cases h0 : f ahead p = 0
    · rw [if_neg (by simp [h0])] at h ⊢
      exact runC_take L _ k h
    · rw [if_pos h0] at h
      exact absurd h h0
/-- What is wrong with picks, of these parts, of these fields. -/
def cR (n : Nat) (P : Nat → LPart) : (d : Nat) → Nat → (Nat → LField) → List ByteArray → List (Pick d) → Int
  | 0, _, _, _, _ => 0
  | d + 1, nf, F, ahead, L => runC (fun ahead p => if fieldIdx nf F (pfield p) < 0 then 5 else if ahead.any (fun q => eqs q (called p)) then 6 else
      if decide ((F (fieldIdx nf F (pfield p)).toNat).kind = 1) == !(subs p).isEmpty then 7 else if (subs p).isEmpty then 0 else
      if partIdx n P (F (fieldIdx nf F (pfield p)).toNat).type < 0 then 5 else cR n P d (P (partIdx n P (F (fieldIdx nf F (pfield p)).toNat).type).toNat).nf (P (partIdx n P (F (fieldIdx nf F (pfield p)).toNat).type).toNat).F [] (subs p)) called ahead L
/-- What is wrong with picks of the part of that name. -/
def cL (n : Nat) (P : Nat → LPart) (d : Nat) (name : ByteArray) (L : List (Pick d)) : Int := if partIdx n P name < 0 then 5 else cR n P d (P (partIdx n P name).toNat).nf (P (partIdx n P name).toNat).F [] L
/-- What is wrong with a pick, behind picks that are called so. -/
def cP (n : Nat) (P : Nat → LPart) (d nf : Nat) (F : Nat → LField) (ahead : List ByteArray) (p : Pick (d + 1)) : Int := if fieldIdx nf F (pfield p) < 0 then 5 else if ahead.any (fun q => eqs q (called p)) then 6 else
      if decide ((F (fieldIdx nf F (pfield p)).toNat).kind = 1) == !(subs p).isEmpty then 7 else if (subs p).isEmpty then 0 else cL n P d (F (fieldIdx nf F (pfield p)).toNat).type (subs p)
theorem cR_nil (n : Nat) (P : Nat → LPart) (d nf : Nat) (F : Nat → LField) (ahead : List ByteArray) : cR n P d nf F ahead [] = 0 := by
  cases d with
  | zero => rfl
  | succ d => rfl
theorem cR_cons (n : Nat) (P : Nat → LPart) (d nf : Nat) (F : Nat → LField) (ahead : List ByteArray) (p : Pick (d + 1)) (L : List (Pick (d + 1))) : cR n P (d + 1) nf F ahead (p :: L) = if cP n P d nf F ahead p ≠ 0 then cP n P d nf F ahead p else cR n P (d + 1) nf F (ahead ++ [called p]) L := by
  rw [cR, runC]; rfl
theorem cR_take (n : Nat) (P : Nat → LPart) (d nf : Nat) (F : Nat → LField) (L : List (Pick d)) (ahead : List ByteArray) (k : Nat) (h : cR n P d nf F ahead L = 0) : cR n P d nf F ahead (L.take k) = 0 := by
  cases d with
  | zero => rfl
  | succ d => exact runC_take L ahead k h
/-- What is wrong with what is asked, of these parts. -/
def cA (n : Nat) (P : Nat → LPart) (d : Nat) (type key : ByteArray) (L : List (Pick d)) : Int := if wA d type key L ≠ 0 then wA d type key L else cL n P d type L
theorem wA_take {d : Nat} {type key : ByteArray} {L : List (Pick d)} {k : Nat} (hk : 0 < k) (hl : 0 < L.length) (h : wA d type key L = 0) : wA d type key (L.take k) = 0 := by
  unfold wA at *
  by_cases hn : (!named type || !named key) = true
  · rw [if_pos hn] at h; exact absurd h (by decide)
  · rw [if_neg hn] at h ⊢
    unfold wL at *
    rw [if_neg (by omega)] at h ⊢
    by_cases he : L.isEmpty = true
    · rw [if_pos he] at h; cases h
    · rw [if_neg he] at h
      have he2 : ¬ (L.take k).isEmpty = true := by
        intro h2
        rw [List.isEmpty_iff] at h2
        have := congrArg List.length h2
        rw [List.length_take, List.length_nil] at this; omega
      rw [if_neg he2]
      cases d with
      | zero => rfl
      | succ d => rw [wR_succ] at h ⊢; exact runR_take L 0 k h
theorem cA_take {n : Nat} {P : Nat → LPart} {d : Nat} {type key : ByteArray} {L : List (Pick d)} {k : Nat} (hk : 0 < k) (hl : 0 < L.length) (h : cA n P d type key L = 0) : cA n P d type key (L.take k) = 0 := by
  unfold cA at *
  by_cases h0 : wA d type key L = 0
  · rw [if_neg (by simp [h0])] at h
    rw [if_neg (by simp [wA_take hk hl h0])]
    unfold cL at *
    split at h
    · exact absurd h (by decide)
    · rename_i hq
      rw [if_neg hq]
      exact cR_take n P d _ _ L [] k h
  · rw [if_pos h0] at h; exact absurd h h0
end Go.Proofs.Ytjjggefmmeminab
