import Derived.Test.YtjjggefmmeminacGreatJMn
import Derived.Lib.Join
/-
  What is asked, as a text.
-/
namespace Go.Proofs.YtjjggefmmeminacGreat
open Go.RowKit Go.Sort Go.PlainAid

/-- A pick's text. -/
def textP {d : Nat} (rec : List (Pick d) → ByteArray) (p : Pick (d + 1)) : ByteArray :=
  if (subs p).isEmpty then (if emp (nick p) then pfield p else nick p ++ ⟨#[58]⟩ ++ pfield p) else (if emp (nick p) then pfield p else nick p ++ ⟨#[58]⟩ ++ pfield p) ++ rec (subs p)
/-- Texts with a blank between them. -/
def joinB (l : List ByteArray) : ByteArray := ⟨(Lib.join (l.map (·.data.toList)) [32]).toArray⟩
/-- A list's text. -/
def textL : (d : Nat) → List (Pick d) → ByteArray
  | 0, _ => ⟨#[123]⟩ ++ joinB [] ++ ⟨#[125]⟩
  | d + 1, L => ⟨#[123]⟩ ++ joinB (L.map (textP (textL d))) ++ ⟨#[125]⟩
/-- The text of what is asked. -/
def textA (d : Nat) (type key : ByteArray) (L : List (Pick d)) : ByteArray := type ++ ⟨#[40]⟩ ++ key ++ ⟨#[41]⟩ ++ textL d L

theorem size_app (a b : ByteArray) : (a ++ b).size = a.size + b.size := ByteArray.size_append
theorem data_app (a b : ByteArray) : (a ++ b).data.toList = a.data.toList ++ b.data.toList := by rw [ByteArray.data_append, Array.toList_append]
theorem bytes_inj {a b : ByteArray} (h : a.data.toList = b.data.toList) : a = b := by
  cases a with | mk a => cases b with | mk b => exact congrArg ByteArray.mk (Array.toList_inj.1 h)
theorem joinB_data (l : List ByteArray) : (joinB l).data.toList = [32].intercalate (l.map (·.data.toList)) := rfl
theorem joinB_nil : joinB [] = ⟨#[]⟩ := rfl
theorem joinB_one (x : ByteArray) : joinB [x] = x := by
  apply bytes_inj; rw [joinB_data]; simp
theorem inter_snoc (l : List (List UInt8)) (x : List UInt8) (h : l ≠ []) : [32].intercalate (l ++ [x]) = [32].intercalate l ++ 32 :: x := by
  induction l with
  | nil => exact absurd rfl h
  | cons y l ih =>
    cases l with
    | nil => simp [List.intercalate]
    | cons z l =>
      have := ih (by simp)
      simp only [List.intercalate, List.cons_append, List.intersperse, List.flatten_cons] at this ⊢
      rw [this]; simp
theorem joinB_snoc (l : List ByteArray) (x : ByteArray) (h : l ≠ []) : joinB (l ++ [x]) = joinB l ++ ⟨#[32]⟩ ++ x := by
  apply bytes_inj
  rw [data_app, data_app, joinB_data, joinB_data, List.map_append]
  show [32].intercalate (l.map (·.data.toList) ++ [x.data.toList]) = _
  rw [inter_snoc _ _ (by simpa using h)]; simp
theorem inter_cons (x y : List UInt8) (l : List (List UInt8)) : [32].intercalate (x :: y :: l) = x ++ 32 :: [32].intercalate (y :: l) := by
  simp [List.intercalate, List.intersperse]
theorem inter_len : ∀ l : List (List UInt8), ([32].intercalate l).length ≤ (l.map (fun x => x.length + 1)).sum
  | [] => by simp [List.intercalate]
  | [x] => by simp [List.intercalate]
  | x :: y :: l => by
    rw [inter_cons]
    have := inter_len (y :: l)
    simp only [List.length_append, List.length_cons, List.map_cons, List.sum_cons] at this ⊢
    omega
theorem inter_part : ∀ (l : List (List UInt8)) (x : List UInt8), x ∈ l → x.length ≤ ([32].intercalate l).length
  | [], x, h => by simp at h
  | [y], x, h => by simp at h; subst h; simp [List.intercalate]
  | y :: z :: l, x, h => by
    rw [inter_cons]
    simp only [List.length_append, List.length_cons]
    rcases List.mem_cons.1 h with rfl | h
    · omega
    · have := inter_part (z :: l) x h; omega
theorem size_list (s : ByteArray) : s.size = s.data.toList.length := by rw [Array.length_toList]; rfl
theorem joinB_size (l : List ByteArray) : (joinB l).size = ([32].intercalate (l.map (·.data.toList))).length := by
  rw [← joinB_data, size_list]
theorem joinB_part {l : List ByteArray} {x : ByteArray} (h : x ∈ l) : x.size ≤ (joinB l).size := by
  rw [joinB_size]
  have := inter_part (l.map (·.data.toList)) x.data.toList (List.mem_map.2 ⟨x, h, rfl⟩)
  rw [size_list]; exact this
theorem joinB_sum (l : List ByteArray) : (joinB l).size ≤ (l.map (fun x => x.size + 1)).sum := by
  rw [joinB_size]
  have := inter_len (l.map (·.data.toList))
  rw [List.map_map] at this
  have e : (fun x : ByteArray => x.size + 1) = ((fun x : List UInt8 => x.length + 1) ∘ fun x : ByteArray => x.data.toList) := by funext x; show x.size + 1 = x.data.toList.length + 1; rw [size_list]
  rw [e]; exact this
theorem inter_count : ∀ l : List (List UInt8), l.length ≤ ([32].intercalate l).length + 1
  | [] => by simp
  | [x] => by simp
  | x :: y :: l => by
    rw [inter_cons]
    have := inter_count (y :: l)
    simp only [List.length_append, List.length_cons] at this ⊢
    omega
theorem joinB_count (l : List ByteArray) : l.length ≤ (joinB l).size + 1 := by
  rw [joinB_size]
  have := inter_count (l.map (·.data.toList))
  rw [List.length_map] at this; exact this
theorem textL_zero (L : List (Pick 0)) : textL 0 L = ⟨#[123]⟩ ++ joinB [] ++ ⟨#[125]⟩ := rfl
theorem textL_succ (d : Nat) (L : List (Pick (d + 1))) : textL (d + 1) L = ⟨#[123]⟩ ++ joinB (L.map (textP (textL d))) ++ ⟨#[125]⟩ := rfl
theorem textP_sub {d : Nat} {p : Pick (d + 1)} (h : (subs p).isEmpty = false) : (textL d (subs p)).size ≤ (textP (textL d) p).size := by
  unfold textP; rw [h, if_neg (by decide), size_app]; omega
theorem textL_part {d : Nat} {L : List (Pick (d + 1))} {i : Nat} (h : i < L.length) : (textP (textL d) (pickN L i)).size ≤ (textL (d + 1) L).size := by
  rw [textL_succ, size_app, size_app]
  have := joinB_part (l := L.map (textP (textL d))) (x := textP (textL d) (pickN L i)) (List.mem_map.2 ⟨_, by rw [pickN_get h]; exact List.getElem_mem h, rfl⟩)
  omega
theorem named_size {s : ByteArray} (h : named s = true) : s.size ≤ 12 := by
  by_cases h12 : 12 < s.size
  · unfold named at h; simp [h12] at h
  · omega
/-- What is right is not long. -/
theorem text_bound : ∀ (d deep n : Nat) (L : List (Pick d)), (wR d deep n L).1 = 0 → (textL d L).size + 28 * n ≤ 28 * (wR d deep n L).2 + 2
  | 0, deep, n, L, _ => by rw [textL_zero, size_app, size_app, joinB_nil]; show 1 + 0 + 1 + 28 * n ≤ 28 * n + 2; omega
  | d + 1, deep, n, L, h => by
    rw [textL_succ, size_app, size_app]
    have key : ∀ (L : List (Pick (d + 1))) (n : Nat), (wR (d + 1) deep n L).1 = 0 → ((L.map (textP (textL d))).map (fun x => x.size + 1)).sum + 28 * n ≤ 28 * (wR (d + 1) deep n L).2 := by
      intro L
      induction L with
      | nil => intro n _; rw [wR_nil]; simp
      | cons p L ih =>
        intro n h
        rw [wR_cons] at h ⊢
        by_cases h0 : (wP d deep n p).1 = 0
        · rw [if_neg (by simp [h0])] at h ⊢
          have h1 := ih _ h
          have hp : (textP (textL d) p).size + 1 + 28 * n ≤ 28 * (wP d deep n p).2 := by
            unfold wP at h0 ⊢
            by_cases a1 : 60 < n + 1
            · rw [if_pos a1] at h0; cases h0
            rw [if_neg a1] at h0 ⊢
            by_cases a2 : badName p = true
            · rw [if_pos a2] at h0; cases h0
            rw [if_neg a2] at h0 ⊢
            have hf : (pfield p).size ≤ 12 := named_size (by
              unfold badName at a2
              cases hh : named (pfield p) with
              | true => rfl
              | false => rw [hh] at a2; exact absurd rfl a2)
            have hk : emp (nick p) = false → (nick p).size ≤ 12 := fun he => named_size (by
              unfold badName at a2
              cases hh : named (nick p) with
              | true => rfl
              | false => rw [hh, he] at a2; simp at a2)
            have hn : (if emp (nick p) then pfield p else nick p ++ ⟨#[58]⟩ ++ pfield p).size ≤ 25 := by
              cases he : emp (nick p) with
              | true => show (pfield p).size ≤ 25; omega
              | false =>
                show (nick p ++ ⟨#[58]⟩ ++ pfield p).size ≤ 25
                rw [size_app, size_app]
                have := hk he
                show (nick p).size + 1 + (pfield p).size ≤ 25
                omega
            unfold textP
            by_cases a3 : (subs p).isEmpty = true
            · rw [if_pos a3]
              rw [if_pos a3] at h0 ⊢
              show _ + 1 + 28 * n ≤ 28 * (n + 1)
              omega
            · rw [if_neg a3]
              rw [if_neg a3] at h0 ⊢
              unfold wL at h0 ⊢
              by_cases a4 : 8 < deep + 1
              · rw [if_pos a4] at h0; cases h0
              rw [if_neg a4, if_neg a3] at h0 ⊢
              have := text_bound d (deep + 1) (n + 1) (subs p) h0
              rw [size_app]
              omega
          simp only [List.map_cons, List.sum_cons]
          omega
        · rw [if_pos h0] at h; exact absurd h h0
    have h1 := key L n h
    have h2 := joinB_sum (L.map (textP (textL d)))
    show 1 + _ + 1 + _ ≤ _
    omega
theorem text_right {d : Nat} {type key : ByteArray} {L : List (Pick d)} (h : wA d type key L = 0) : (textL d L).size ≤ 100000 ∧ type.size ≤ 12 ∧ key.size ≤ 12 := by
  unfold wA at h
  by_cases hn : (!named type || !named key) = true
  · rw [if_pos hn] at h; cases h
  rw [if_neg hn] at h
  simp only [Bool.or_eq_true, Bool.not_eq_true', not_or, Bool.not_eq_false] at hn
  refine ⟨?_, named_size hn.1, named_size hn.2⟩
  have h3 := (wL_le d 1 0 L (by omega)).2 h
  unfold wL at h h3
  rw [if_neg (by omega)] at h h3
  by_cases he : L.isEmpty = true
  · rw [if_pos he] at h; cases h
  rw [if_neg he] at h h3
  have := text_bound d 1 0 L h
  omega
end Go.Proofs.YtjjggefmmeminacGreat
