/-
  The contracts of change.callType's closure, of change.eachField with it, and of change.callType: a type is called otherwise, wherever it stands.
-/
import Derived.Test.YtjjggefmmeminabChFind
namespace Go.Proofs.Ytjjggefmmeminab
open Go.RowKit Go.Sort

theorem Seens.congr {w : World} {base n : Nat} {v : Value} {fv ov : Nat → Value} {S S' : Nat → PSeen} (h : Seens w base v n fv ov S)
    (e : ∀ i, i < n → (S' i).name = (S i).name ∧ (S' i).own = (S i).own ∧ (S' i).nf = (S i).nf ∧ (∀ j, j < (S i).nf → (S' i).F j = (S i).F j) ∧ ∀ j, j < (S i).nf → (S' i).O j = (S i).O j) : Seens w base v n fv ov S' := by
  refine ⟨h.nmax, h.row.congr fun j hj => ?_, fun i hi => ?_, fun i hi => ?_, h.fapart, h.oapart, fun i hi => ?_⟩
  · obtain ⟨e1, e2, -⟩ := e (j / 4) (by omega)
    unfold seenCell; rw [e1, e2]
  · obtain ⟨-, -, e3, e4, -⟩ := e i hi
    rw [e3]
    exact (h.fields i hi).congr fun j hj => by unfold fieldCell; rw [e4 (j / 3) (by omega)]
  · obtain ⟨-, -, e3, -, e5⟩ := e i hi
    rw [e3]
    exact (h.owns i hi).congr fun j hj => by unfold textCell; rw [e5 j (by omega)]
  · obtain ⟨e1, e2, e3, e4, e5⟩ := e i hi
    obtain ⟨q1, q2, q3, q4, q5⟩ := h.good i hi
    refine ⟨by rw [e1]; exact q1, by rw [e2]; exact q2, by rw [e3]; exact q3, fun j hj => ?_, fun j hj => ?_⟩
    · rw [e3] at hj; rw [e4 j hj]; exact q4 j hj
    · rw [e3] at hj; rw [e5 j hj]; exact q5 j hj

def retype (frm to : ByteArray) (f : LField) : LField := if eqs f.type frm then { f with type := to } else f
def part (S : Nat → PSeen) (frm to : ByteArray) (k m : Nat) : Nat → PSeen := fun i => { S i with F := fun j => if i < k ∨ (i = k ∧ j < m) then retype frm to ((S i).F j) else (S i).F j }

theorem part_next {w : World} {base n : Nat} {v : Value} {fv ov : Nat → Value} {S : Nat → PSeen} {frm to : ByteArray} {k : Nat} (h : Seens w base v n fv ov (part S frm to k (S k).nf)) : Seens w base v n fv ov (part S frm to (k + 1) 0) := by
  refine h.congr fun i hi => ⟨rfl, rfl, rfl, fun j hj => ?_, fun j hj => rfl⟩
  show (if i < k + 1 ∨ (i = k + 1 ∧ j < 0) then _ else _) = (if i < k ∨ (i = k ∧ j < (S k).nf) then _ else _)
  have hj' : j < (S i).nf := hj
  by_cases hik : i = k
  · subst hik
    rw [if_pos (by omega), if_pos (by omega)]
  · by_cases hlt : i < k
    · rw [if_pos (by omega), if_pos (by omega)]
    · rw [if_neg (by omega), if_neg (by omega)]

theorem part_at {S : Nat → PSeen} {frm to : ByteArray} {k m : Nat} : (part S frm to k m k).F m = (S k).F m := by
  show (if k < k ∨ (k = k ∧ m < m) then _ else _) = _
  rw [if_neg (by omega)]

theorem part_skip {w : World} {base n : Nat} {v : Value} {fv ov : Nat → Value} {S : Nat → PSeen} {frm to : ByteArray} {k m : Nat} (h : Seens w base v n fv ov (part S frm to k m)) (he : eqs ((S k).F m).type frm = false) : Seens w base v n fv ov (part S frm to k (m + 1)) := by
  refine h.congr fun i hi => ⟨rfl, rfl, rfl, fun j hj => ?_, fun j hj => rfl⟩
  show (if i < k ∨ (i = k ∧ j < m + 1) then _ else _) = (if i < k ∨ (i = k ∧ j < m) then _ else _)
  by_cases hc : i = k ∧ j = m
  · obtain ⟨rfl, rfl⟩ := hc
    rw [if_pos (by omega), if_neg (by omega)]
    unfold retype; rw [he]; rfl
  · by_cases hd : i < k ∨ (i = k ∧ j < m)
    · rw [if_pos (by omega), if_pos hd]
    · rw [if_neg (by omega), if_neg hd]

theorem part_set {w : World} {base n : Nat} {v : Value} {fv ov : Nat → Value} {S : Nat → PSeen} {frm to : ByteArray} {k m fb cap : Nat} (h : Seens w base v n fv ov (part S frm to k m)) (hk : k < n) (hm : m < (S k).nf) (hs : Small to)
    (hfv : fv k = .slice (some ⟨fb, 0, none⟩) (S k).nf cap) (he : eqs ((S k).F m).type frm = true) : Seens (w.setCell ⟨fb, m * 3 + 2, none⟩ (.string to)) base v n fv ov (part S frm to k (m + 1)) := by
  refine (h.setField hk hfv (.string to) (m * 3 + 2) (part S frm to k (m + 1) k).F ?_ ?_).congr ?_
  · intro q hq
    by_cases hqm : q = m * 3 + 2
    · subst hqm
      rw [if_pos rfl, fieldCell2]
      show _ = Value.string (if k < k ∨ (k = k ∧ m < m + 1) then retype frm to ((S k).F m) else _).type
      rw [if_pos (by omega)]
      unfold retype; rw [he]; rfl
    · rw [if_neg hqm]
      have hF : ∀ j, j ≠ m → (part S frm to k m k).F j = (part S frm to k (m + 1) k).F j := fun j hj => by
        show (if k < k ∨ (k = k ∧ j < m) then _ else _) = (if k < k ∨ (k = k ∧ j < m + 1) then _ else _)
        by_cases hd : j < m
        · rw [if_pos (by omega), if_pos (by omega)]
        · rw [if_neg (by omega), if_neg (by omega)]
      by_cases hd : q / 3 = m
      · have h1 : (part S frm to k m k).F m = (S k).F m := part_at
        have h2 : (part S frm to k (m + 1) k).F m = retype frm to ((S k).F m) := by
          show (if k < k ∨ (k = k ∧ m < m + 1) then _ else _) = _
          rw [if_pos (by omega)]
        unfold fieldCell
        rw [hd, h1, h2]
        unfold retype; rw [he]
        by_cases h0 : q % 3 = 0
        · rw [if_pos h0, if_pos h0]; rfl
        · rw [if_neg h0, if_neg h0, if_pos (by omega), if_pos (by omega)]; rfl
      · unfold fieldCell; rw [hF _ hd]
  · intro j hj
    have hg := (h.good k hk).2.2.2.1 j hj
    show GoodF (if k < k ∨ (k = k ∧ j < m + 1) then _ else _)
    by_cases hd : j = m
    · subst hd
      rw [part_at] at hg
      rw [if_pos (by omega)]
      unfold retype; rw [he]
      exact ⟨hg.1, hs, hg.2.2⟩
    · have : (part S frm to k m k).F j = if k < k ∨ (k = k ∧ j < m + 1) then retype frm to ((S k).F j) else (S k).F j := by
        show (if k < k ∨ (k = k ∧ j < m) then _ else _) = _
        by_cases hd : j < m
        · rw [if_pos (by omega), if_pos (by omega)]
        · rw [if_neg (by omega), if_neg (by omega)]
      rw [← this]; exact hg
  · intro i hi
    refine ⟨rfl, rfl, rfl, fun j hj => ?_, fun j hj => rfl⟩
    by_cases hik : i = k
    · subst hik
      show _ = (if i = i then (part S frm to i (m + 1) i).F else _) j
      rw [if_pos rfl]
    · show (part S frm to k (m + 1) i).F j = (if i = k then _ else (part S frm to k m i).F) j
      rw [if_neg hik]
      show (if i < k ∨ (i = k ∧ j < m + 1) then _ else _) = (if i < k ∨ (i = k ∧ j < m) then _ else _)
      by_cases hd : i < k
      · rw [if_pos (by omega), if_pos (by omega)]
      · rw [if_neg (by omega), if_neg (by omega)]

theorem part_zero {w : World} {base n : Nat} {v : Value} {fv ov : Nat → Value} {S : Nat → PSeen} {frm to : ByteArray} (h : Seens w base v n fv ov S) : Seens w base v n fv ov (part S frm to 0 0) := by
  refine h.congr fun i hi => ⟨rfl, rfl, rfl, fun j hj => ?_, fun j hj => rfl⟩
  show (if i < 0 ∨ (i = 0 ∧ j < 0) then _ else _) = _
  rw [if_neg (by omega)]

theorem Try.e149 : ∀ args w, (callFunc 149 args).run Try.prog w = .ok (.enter 149 args) w := enters_of Try.func149 (by kernel_rfl) rfl

set_option maxRecDepth 100000 in
set_option maxHeartbeats 400000 in
theorem callType1_hit (fb p bf bt : Nat) (ty frm to : ByteArray) (w : World) (hc : w.cell? ⟨fb, p + 2, none⟩ = some (.string ty)) (hz : w.frozen? ⟨fb, p + 2, none⟩ = false) (c1 : w.cell? ⟨bf, 0, none⟩ = some (.string frm)) (c2 : w.cell? ⟨bt, 0, none⟩ = some (.string to)) (he : eqs ty frm = true) :
    Calls Try.prog 149 #[.pointer (some ⟨fb, p, none⟩), .pointer (some ⟨bf, 0, none⟩), .pointer (some ⟨bt, 0, none⟩)] w fun e w' => e = .returned (.tuple #[]) ∧ ∃ q, w' = (w.drewN q).setCell ⟨fb, p + 2, none⟩ (.string to) := by
  have he' : (ty.toList == frm.toList) = true := by rw [eqs_eq]; exact he
  clear he
  go_enter Try.func149, Try.ntmps149
  go_wp2_with fail
  go_quiet (fail)
  go_wp2_with fail
  go_end0
  exact ⟨rfl, _, rfl⟩

set_option maxRecDepth 100000 in
set_option maxHeartbeats 400000 in
theorem callType1_miss (fb p bf bt : Nat) (ty frm : ByteArray) (w : World) (hc : w.cell? ⟨fb, p + 2, none⟩ = some (.string ty)) (c1 : w.cell? ⟨bf, 0, none⟩ = some (.string frm)) (he : eqs ty frm = false) :
    Calls Try.prog 149 #[.pointer (some ⟨fb, p, none⟩), .pointer (some ⟨bf, 0, none⟩), .pointer (some ⟨bt, 0, none⟩)] w fun e w' => e = .returned (.tuple #[]) ∧ ∃ q, w' = w.drewN q := by
  have he' : (ty.toList == frm.toList) = false := by rw [eqs_eq]; exact he
  clear he
  go_enter Try.func149, Try.ntmps149
  go_wp2_with fail
  go_quiet (fail)
  go_wp2_with fail
  go_end0
  exact ⟨rfl, _, rfl⟩
end Go.Proofs.Ytjjggefmmeminab
