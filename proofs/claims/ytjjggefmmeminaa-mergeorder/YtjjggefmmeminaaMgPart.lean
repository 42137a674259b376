/-
  The contract of merge.withPart: the parts, one of that name among them, and its number.
-/
import Derived.Test.YtjjggefmmeminaaMgIns
namespace Go.Proofs.Ytjjggefmmeminaa
open Go.RowKit Go.Sort

theorem Parts.one {Z : Nat → Prop} {w : World} {v : Value} {L : List PPart} {rv : Nat → Nat → Value} (h : Parts Z w v L rv) : ∀ q, q < L.length * 4 → (partCell L rv q).oneCell' = true := fun q hq => by
  unfold partCell
  split
  · rfl
  · obtain ⟨a, c, e, -⟩ := (h.rows (q % 4 - 1) (q / 4) (by omega) (by omega)).slice
    rw [e]; rfl

def insV (rv : Nat → Nat → Value) (k : Nat) (c i : Nat) : Value := if i < k then rv c i else if i = k then .slice none 0 0 else rv c (i - 1)
theorem put_cell {L : List PPart} {rv : Nat → Nat → Value} {name : ByteArray} (hh : hit L name = false) (q : Nat) : insCell (partCell L rv) (pos L name) [.string name, .slice none 0 0, .slice none 0 0, .slice none 0 0] q = partCell (ins L name) (insV rv (pos L name)) q := by
  unfold insCell
  by_cases c1 : q < pos L name * 4
  · have e1 : q / 4 < pos L name := by omega
    simp only [partCell, insV, ins_nth hh, e1, c1, if_true]
  · have e1 : ¬ q / 4 < pos L name := by omega
    by_cases c2 : q < pos L name * 4 + 4
    · have e2 : q / 4 = pos L name := by omega
      simp only [partCell, insV, ins_nth hh, c1, c2, e2, Nat.lt_irrefl, if_true, if_false]
      obtain ⟨k, rfl⟩ : ∃ k, q = pos L name * 4 + k := ⟨q - pos L name * 4, by omega⟩
      rw [show pos L name * 4 + k - pos L name * 4 = k by omega]
      have hk : k < 4 := by omega
      match k, hk with
      | 0, _ => rw [if_pos (by omega)]; rfl
      | 1, _ => rw [if_neg (by omega)]; rfl
      | 2, _ => rw [if_neg (by omega)]; rfl
      | 3, _ => rw [if_neg (by omega)]; rfl
    · have e2 : ¬ q / 4 = pos L name := by omega
      simp only [partCell, insV, ins_nth hh, c1, c2, e1, e2, if_false, show (q - 4) % 4 = q % 4 by omega, show (q - 4) / 4 = q / 4 - 1 by omega]
theorem Parts.put {Z : Nat → Prop} {w w' : World} {v v' : Value} {L : List PPart} {rv : Nat → Nat → Value} {name : ByteArray} (h : Parts Z w v L rv) (hh : hit L name = false) (hs : Small name) (hm : L.length + 1 ≤ maxLen) (hZ : ∀ b, Z b → b < w.heap.size)
    (hr : Row w' 0 76 4 v' (L.length + 1) (insCell (partCell L rv) (pos L name) [.string name, .slice none 0 0, .slice none 0 0, .slice none 0 0])) (hg : w.grownBy w' v.ownBlock) (hat : v'.ownBlock = v.ownBlock ∨ ∃ b, v'.ownBlock = some b ∧ w.heap.size ≤ b) :
    Parts Z w' v' (ins L name) (insV rv (pos L name)) ∧ Keep Z w w' := by
  have hp := pos_le L name
  have hl := ins_len hh
  have lt2 : ∀ i, i < (ins L name).length → ¬ i < pos L name → ¬ i = pos L name → i - 1 < L.length := fun i hi h1 h2 => by omega
  have rows : ∀ c i, c < 3 → i < L.length → Row w' 0 (et c) 3 (rv c i) (len c (nth L i)) (cellsOf c (nth L i)) := fun c i hc hi => (h.rows c i hc hi).grown hg (fun b hb e => h.ne hc hi e hb)
  refine ⟨⟨by rw [hl]; exact hm, ?_, fun c i hc hi => ?_, fun c i c' i' hc hi hc' hi' hne b hb => ?_, fun b hb hz => ?_, fun c i hc hi b hb => ?_, fun i hi => ?_⟩, Keep.grown hg hZ h.freeV⟩
  · rw [hl]
    exact hr.congr fun q _ => put_cell hh q
  · rw [hl] at hi
    rw [ins_nth hh]
    unfold insV
    by_cases c1 : i < pos L name
    · rw [if_pos c1, if_pos c1]; exact rows c i hc (by omega)
    · rw [if_neg c1, if_neg c1]
      by_cases c2 : i = pos L name
      · rw [if_pos c2, if_pos c2]
        have e1 : len c (newP name) = 0 := by
          unfold len newP
          split
          · rfl
          · split <;> rfl
        rw [e1]; exact World.ownsRow_nil _ _ _ _
      · rw [if_neg c2, if_neg c2]; exact rows c (i - 1) hc (by omega)
  · rw [hl] at hi hi'
    unfold insV at hb ⊢
    by_cases c1 : i < pos L name
    · rw [if_pos c1] at hb
      by_cases d1 : i' < pos L name
      · rw [if_pos d1]; exact h.apart c i c' i' hc (by omega) hc' (by omega) hne b hb
      · rw [if_neg d1]
        by_cases d2 : i' = pos L name
        · rw [if_pos d2]; exact fun e => (by cases e)
        · rw [if_neg d2]; exact h.apart c i c' (i' - 1) hc (by omega) hc' (by omega) (by omega) b hb
    · rw [if_neg c1] at hb
      by_cases c2 : i = pos L name
      · rw [if_pos c2] at hb; cases hb
      · rw [if_neg c2] at hb
        by_cases d1 : i' < pos L name
        · rw [if_pos d1]; exact h.apart c (i - 1) c' i' hc (by omega) hc' (by omega) (by omega) b hb
        · rw [if_neg d1]
          by_cases d2 : i' = pos L name
          · rw [if_pos d2]; exact fun e => (by cases e)
          · rw [if_neg d2]; exact h.apart c (i - 1) c' (i' - 1) hc (by omega) hc' (by omega) (by omega) b hb
  · rcases hat with e | ⟨b', e, hb'⟩
    · exact h.freeV b (by rw [← e]; exact hb) hz
    · rw [e] at hb; cases hb
      have := hZ _ hz; omega
  · rw [hl] at hi
    unfold insV at hb
    by_cases c1 : i < pos L name
    · rw [if_pos c1] at hb; exact h.free c i hc (by omega) b hb
    · rw [if_neg c1] at hb
      by_cases c2 : i = pos L name
      · rw [if_pos c2] at hb; cases hb
      · rw [if_neg c2] at hb; exact h.free c (i - 1) hc (by omega) b hb
  · rw [hl] at hi
    rw [ins_nth hh]
    by_cases c1 : i < pos L name
    · rw [if_pos c1]; exact h.good i (by omega)
    · rw [if_neg c1]
      by_cases c2 : i = pos L name
      · rw [if_pos c2]; exact good_new hs
      · rw [if_neg c2]; exact h.good (i - 1) (by omega)

theorem Try.e132 : ∀ args w, (callFunc 132 args).run Try.prog w = .ok (.enter 132 args) w := enters_of Try.func132 (by kernel_rfl) rfl
set_option maxRecDepth 100000 in
set_option maxHeartbeats 1000000 in
theorem withPart_any (Z : Nat → Prop) (v : Value) (L : List PPart) (rv : Nat → Nat → Value) (name : ByteArray) (w : World) (hP : Parts Z w v L rv) (hZ : ∀ b, Z b → b < w.heap.size) (hR : Rise L) (hm : L.length ≤ 900) (hs : Small name) :
    Calls Try.prog 110 #[v, .string name] w fun e w' => (∃ v' rv', e = .returned (.tuple #[v', .int .i64 (pos L name : Nat)]) ∧ Parts Z w' v' (ins L name) rv') ∧ Keep Z w w' := by
  obtain ⟨a, cap, hv, hcap⟩ := hP.slice
  have HP := Hid.intro hP
  have HZ := Hid.intro hZ
  have hcl := search_any Z v L rv name w hP hR (by omega)
  clear hP hZ hR
  subst hv
  go_enter Try.func110, Try.ntmps110
  go_wp2_with fail
  refine hcl.mono ?_
  clear hcl
  rintro e w1 ⟨rfl, hw1⟩
  have HP1 := Hid.intro (HP.out.kept' hw1)
  have HK1 : Hid (Keep Z w w1) := Keep.of hw1 HZ.out
  have HZ1 : Hid (∀ b, Z b → b < w1.heap.size) := fun b hb => Nat.lt_of_lt_of_le (HZ.out b hb) hw1.size
  clear hw1
  cases hh : hit L name with
  | true =>
    have hf := Hid.intro (ins_hit hh)
    clear hh
    go_wp2_with fail
    go_ret2
    exact ⟨⟨_, rv, rfl, by rw [hf.out]; exact HP1.out⟩, HK1.out⟩
  | false =>
    have HH := Hid.intro hh
    clear hh
    have hB := below1 w1 (Obj.cells #[.string name, .slice none 0 0, .slice none 0 0, .slice none 0 0] 76)
    have hP2 := HP1.out.kept' hB
    have hcl := insert_any L.length (pos L name) w1.heap.size _ _ [.string name, .slice none 0 0, .slice none 0 0, .slice none 0 0] rfl _ hP2.row hP2.one (pos_le L name) (by omega) (heap_alloc_new _ _) (fun e => by have := (HP1.out.row.lt e).2; omega) (by intro u hu; simp at hu; rcases hu with rfl | rfl <;> rfl)
    have HP2 := Hid.intro hP2
    have HZ2 : Hid (∀ b, Z b → b < (w1.alloc (Obj.cells #[.string name, .slice none 0 0, .slice none 0 0, .slice none 0 0] 76)).heap.size) := fun b hb => Nat.lt_of_lt_of_le (HZ1.out b hb) hB.size
    have HK2 : Hid (Keep Z w (w1.alloc (Obj.cells #[.string name, .slice none 0 0, .slice none 0 0, .slice none 0 0] 76))) := HK1.out.trans (Keep.of hB HZ1.out)
    clear hB hP2
    go_wp2_with fail
    refine hcl.mono ?_
    clear hcl
    rintro e w3 ⟨v', rfl, hr, hg, hat⟩
    obtain ⟨q1, q2⟩ := HP2.out.put HH.out hs (by unfold maxLen; omega) HZ2.out hr hg hat
    have HQ := Hid.intro q1
    have HK := Hid.intro (HK2.out.trans q2)
    clear q1 q2 hr hg hat
    go_wp2_with fail
    go_ret2
    exact ⟨⟨_, _, rfl, HQ.out⟩, HK.out⟩
end Go.Proofs.Ytjjggefmmeminaa
