/-
  The contracts of the reader's end and ask.
-/
import Derived.Test.YtjjggefmmeminabQpList
namespace Go.Proofs.Ytjjggefmmeminab
open Go.RowKit Go.Sort Go.PlainAid

/-- What is asked: its own variable. -/
def ABox (w : World) (b : Nat) (s f : ByteArray) (A : Option Addr) (n C : Nat) : Prop := w.heap[b]? = some (.cells #[.string s, .string f, .slice A n C] 24 (0, 0))
section
variable {w w' : World} {b : Nat} {s f : ByteArray} {A : Option Addr} {n C : Nat}
theorem ABox.c0 (h : ABox w b s f A n C) : w.cell? ⟨b, 0, none⟩ = some (.string s) := by simp [World.cell?, show w.heap[b]? = _ from h]
theorem ABox.c1 (h : ABox w b s f A n C) : w.cell? ⟨b, 1, none⟩ = some (.string f) := by simp [World.cell?, show w.heap[b]? = _ from h]
theorem ABox.c2 (h : ABox w b s f A n C) : w.cell? ⟨b, 2, none⟩ = some (.slice A n C) := by simp [World.cell?, show w.heap[b]? = _ from h]
theorem ABox.f0 (h : ABox w b s f A n C) : w.frozen? ⟨b, 0, none⟩ = false := by simp [World.frozen?, show w.heap[b]? = _ from h]
theorem ABox.f1 (h : ABox w b s f A n C) : w.frozen? ⟨b, 1, none⟩ = false := by simp [World.frozen?, show w.heap[b]? = _ from h]
theorem ABox.f2 (h : ABox w b s f A n C) : w.frozen? ⟨b, 2, none⟩ = false := by simp [World.frozen?, show w.heap[b]? = _ from h]
theorem ABox.lt (h : ABox w b s f A n C) : b < w.heap.size := block_lt_of_cell h.c0
theorem ABox.kept (h : ABox w b s f A n C) (hB : Below w.heap.size w w') : ABox w' b s f A n C := (hB.block b h.lt).trans h
theorem ABox.away {r : Nat} (h : ABox w b s f A n C) (hA : Away r w w') (hr : b ≠ r) : ABox w' b s f A n C := (hA.block b h.lt hr).trans h
theorem ABox.set0 (h : ABox w b s f A n C) (s' : ByteArray) : ABox (w.setCell ⟨b, 0, none⟩ (.string s')) b s' f A n C := heap_setCell_same w b 0 _ 24 _ h
theorem ABox.set1 (h : ABox w b s f A n C) (f' : ByteArray) : ABox (w.setCell ⟨b, 1, none⟩ (.string f')) b s f' A n C := heap_setCell_same w b 1 _ 24 _ h
theorem ABox.set2 (h : ABox w b s f A n C) (A' : Option Addr) (n' C' : Nat) : ABox (w.setCell ⟨b, 2, none⟩ (.slice A' n' C')) b s f A' n' C' := heap_setCell_same w b 2 _ 24 _ h
theorem ABox.other {r o : Nat} {v : Value} (h : ABox w b s f A n C) (hr : b ≠ r) : ABox (w.setCell ⟨r, o, none⟩ v) b s f A n C := (Below.heap_setCell w ⟨r, o, none⟩ v b hr).trans h
end

set_option maxRecDepth 100000 in
set_option maxHeartbeats 1000000 in
theorem end_any (b : Nat) (s : ByteArray) (i n : Nat) (w : World) (hb : RBox w b s i n) (hi : i ≤ s.size) (hs : s.size ≤ 1000) :
    Calls Try.prog 63 #[.pointer (some ⟨b, 0, none⟩)] w fun e w' => (¬ skipB s i < s.size → e = .returned (.tuple #[])) ∧ (skipB s i < s.size → e = .panicked (thrown (2, skipB s i))) ∧ Away b w w' := by
  have hcl := blanks_any b s i n w hb hi hs
  have hk := skip_le hi
  clear hb
  generalize skipB s i = k at *
  go_enter Try.func63, Try.ntmps63
  go_wp2_with fail
  refine hcl.mono ?_
  clear hcl
  rintro e w1 ⟨rfl, hr, hA⟩
  have c0 := hr.c0
  have c1 := hr.c1
  have HQ : Hid (∀ q, Away b w (w1.drewN q)) := fun q => hA.trans (Away.of (below_drewN w1 q))
  have HC : Hid (∀ q, RBox (w1.drewN q) b s k n) := fun q => hr.kept (below_drewN w1 q)
  clear hr hA
  by_cases hlt : k < s.size
  · have hlt' : (k : Int) < (s.size : Int) := by omega
    have HLT := hidI hlt
    go_wp2_with fail
    go_quiet (fail)
    have d1 := (HC.out nq).c1
    have hth := throw_any 2 k (w1.drewN nq)
    have HQn := hidI (HQ.out nq)
    generalize w1.drewN nq = w2 at *
    go_wp2_with fail
    refine hth.mono ?_
    clear hth
    rintro e w3 ⟨rfl, rfl⟩
    exact ⟨rfl, fun h => absurd HLT.out h, fun _ => rfl, HQn.out⟩
  · have hlt' : ¬ (k : Int) < (s.size : Int) := by omega
    have HLT := hidI hlt
    go_wp2_with fail
    go_quiet (fail)
    go_wp2_with fail
    go_end0
    exact ⟨fun _ => rfl, fun h => absurd h HLT.out, HQ.out _⟩

def AskOut (b : Nat) (s : ByteArray) (w : World) (e : Ending) (w' : World) : Prop :=
  (∀ r, pAsk s = .ok r → ∃ a cap, e = .returned (.agg #[.string r.1, .string r.2.1, .slice a r.2.2.length cap]) ∧ r.2.2.length ≤ cap ∧ PicksFree (fun k => k < w.heap.size) w' 8 a r.2.2) ∧ (∀ x, pAsk s = .error x → e = .panicked (thrown x)) ∧ Away b w w'

set_option maxRecDepth 100000 in
set_option maxHeartbeats 2000000 in
theorem ask_any (b : Nat) (s : ByteArray) (w : World) (hb : RBox w b s 0 0) (hs : s.size ≤ 1000) :
    Calls Try.prog 33 #[.pointer (some ⟨b, 0, none⟩)] w fun e w' => AskOut b s w e w' := by
  obtain ⟨W, hW⟩ : ∃ W, W = (w.alloc (Obj.cells #[.string ⟨#[]⟩, .string ⟨#[]⟩, .slice none 0 0] 24)).alloc (Obj.cells #[.string ⟨#[]⟩, .string ⟨#[]⟩, .slice none 0 0] 24) := ⟨_, rfl⟩
  have hBW : Below w.heap.size w W := by rw [hW]; exact below2 _ _ _
  have pr : ABox W w.heap.size ⟨#[]⟩ ⟨#[]⟩ none 0 0 := by rw [hW]; exact (Below.heap_alloc _ _ _ (by simp)).trans (heap_alloc_new _ _)
  have pa : ABox W (w.heap.size + 1) ⟨#[]⟩ ⟨#[]⟩ none 0 0 := by
    have hsz : (w.alloc (Obj.cells #[.string ⟨#[]⟩, .string ⟨#[]⟩, .slice none 0 0] 24)).heap.size = w.heap.size + 1 := by simp
    rw [hW, ← hsz]; exact heap_alloc_new _ _
  have hbl := hb.lt
  have hcl := name_any b s 0 0 W (hb.kept hBW) (Nat.zero_le _) hs
  have HBW := hidI hBW
  have HPR := hidI pr
  have HPA := hidI pa
  have HP : Hid (pAsk s = (match pName s 0 with
    | .error e => .error e
    | .ok t =>
      match pSign s 40 t.2 with
      | .error e => .error e
      | .ok i =>
        match pName s i with
        | .error e => .error e
        | .ok k =>
          match pSign s 41 k.2 with
          | .error e => .error e
          | .ok j =>
            match pList s 8 j 0 with
            | .error e => .error e
            | .ok r => if skipB s r.2.1 < s.size then .error (2, skipB s r.2.1) else .ok (t.1, k.1, r.1))) := rfl
  clear hb hBW pr pa
  rw [hW] at hcl
  go_enter Try.func33, Try.ntmps33
  go_wp2_with fail
  rw [← hW] at hcl
  rw [← hW]
  clear hW
  refine hcl.mono ?_
  clear hcl
  rintro e w1 ⟨hok, herr, hA⟩
  have hAw := hA.from HBW.out
  cases h1 : pName s 0 with
  | error x =>
    have HF : Hid (pAsk s = .error x) := by rw [HP.out, h1]; rfl
    rw [herr x h1]
    exact ⟨rfl, fun r h => (by rw [HF.out] at h; cases h), fun y h => (by rw [HF.out] at h; cases h; rfl), hAw⟩
  | ok t =>
  obtain ⟨rfl, hr1⟩ := hok t h1
  obtain ⟨-, ht2, -⟩ := pName_at h1
  have HPR1 := hidI (HPR.out.away hA (by omega))
  have pa1 := HPA.out.away hA (by omega)
  have y0 := pa1.f0
  have q0 := pa1.c0
  generalize hX : w1.setCell ⟨w.heap.size + 1, 0, none⟩ (.string t.1) = X
  have hrX : RBox X b s t.2 0 := by rw [← hX]; exact hr1.other (by omega)
  have HPA2 : Hid (ABox X (w.heap.size + 1) t.1 ⟨#[]⟩ none 0 0) := by rw [← hX]; exact pa1.set0 _
  have HPR2 : Hid (ABox X w.heap.size ⟨#[]⟩ ⟨#[]⟩ none 0 0) := by rw [← hX]; exact HPR1.out.other (by omega)
  have HA2 : Hid (Away b w X) := by rw [← hX]; exact hAw.setNew (by omega)
  have hcl := sign_any b s t.2 0 40 X hrX ht2 hs
  clear hok herr hA hAw pa1 hr1 hrX HPR1 HPR HPA
  go_wp2_with fail
  clear hX y0 q0
  refine hcl.mono ?_
  clear hcl
  rintro e w2 ⟨hok, herr, hA⟩
  have HP2 : Hid (pAsk s = (match pSign s 40 t.2 with
        | .error e => .error e
        | .ok i => (match pName s i with
          | .error e => .error e
          | .ok k => (match pSign s 41 k.2 with
            | .error e => .error e
            | .ok j => (match pList s 8 j 0 with
              | .error e => .error e
              | .ok r => if skipB s r.2.1 < s.size then .error (2, skipB s r.2.1) else .ok (t.1, k.1, r.1)))))) := by rw [HP.out, h1]; rfl
  cases h2 : pSign s 40 t.2 with
  | error x =>
    have HF : Hid (pAsk s = .error x) := by rw [HP2.out, h2]; rfl
    rw [herr x h2]
    exact ⟨rfl, fun r h => (by rw [HF.out] at h; cases h), fun y h => (by rw [HF.out] at h; cases h; rfl), HA2.out.trans hA⟩
  | ok i =>
  have HP3 : Hid (pAsk s = (match pName s i with
          | .error e => .error e
          | .ok k => (match pSign s 41 k.2 with
            | .error e => .error e
            | .ok j => (match pList s 8 j 0 with
              | .error e => .error e
              | .ok r => if skipB s r.2.1 < s.size then .error (2, skipB s r.2.1) else .ok (t.1, k.1, r.1))))) := by rw [HP2.out, h2]; rfl
  obtain ⟨rfl, hr2⟩ := hok i h2
  have hi2 := (pSign_at h2).2
  have HPR3 := hidI (HPR2.out.away hA (by omega))
  have HPA3 := hidI (HPA2.out.away hA (by omega))
  have HA3 : Hid (Away b w w2) := HA2.out.trans hA
  have hcl := name_any b s i 0 w2 hr2 hi2 hs
  clear hok herr hA hr2 HPR2 HPA2 HA2 HP HP2
  go_wp2_with fail
  refine hcl.mono ?_
  clear hcl
  rintro e w3 ⟨hok, herr, hA⟩
  cases h3 : pName s i with
  | error x =>
    have HF : Hid (pAsk s = .error x) := by rw [HP3.out, h3]; rfl
    rw [herr x h3]
    exact ⟨rfl, fun r h => (by rw [HF.out] at h; cases h), fun y h => (by rw [HF.out] at h; cases h; rfl), HA3.out.trans hA⟩
  | ok k =>
  have HP4 : Hid (pAsk s = (match pSign s 41 k.2 with
            | .error e => .error e
            | .ok j => (match pList s 8 j 0 with
              | .error e => .error e
              | .ok r => if skipB s r.2.1 < s.size then .error (2, skipB s r.2.1) else .ok (t.1, k.1, r.1)))) := by rw [HP3.out, h3]; rfl
  obtain ⟨rfl, hr3⟩ := hok k h3
  obtain ⟨-, hk2, -⟩ := pName_at h3
  have HPR4 := hidI (HPR3.out.away hA (by omega))
  have pa3 := HPA3.out.away hA (by omega)
  have hA3' := HA3.out.trans hA
  have y1 := pa3.f1
  have q1 := pa3.c1
  generalize hX : w3.setCell ⟨w.heap.size + 1, 1, none⟩ (.string k.1) = X3
  have hrX : RBox X3 b s k.2 0 := by rw [← hX]; exact hr3.other (by omega)
  have HPA5 : Hid (ABox X3 (w.heap.size + 1) t.1 k.1 none 0 0) := by rw [← hX]; exact pa3.set1 _
  have HPR5 : Hid (ABox X3 w.heap.size ⟨#[]⟩ ⟨#[]⟩ none 0 0) := by rw [← hX]; exact HPR4.out.other (by omega)
  have HA5 : Hid (Away b w X3) := by rw [← hX]; exact hA3'.setNew (by omega)
  have hcl := sign_any b s k.2 0 41 X3 hrX hk2 hs
  clear hok herr hA hA3' pa3 hr3 hrX HPR4 HPR3 HPA3 HA3 HP3
  go_wp2_with fail
  clear hX y1 q1
  refine hcl.mono ?_
  clear hcl
  rintro e w4 ⟨hok, herr, hA⟩
  cases h4 : pSign s 41 k.2 with
  | error x =>
    have HF : Hid (pAsk s = .error x) := by rw [HP4.out, h4]; rfl
    rw [herr x h4]
    exact ⟨rfl, fun r h => (by rw [HF.out] at h; cases h), fun y h => (by rw [HF.out] at h; cases h; rfl), HA5.out.trans hA⟩
  | ok j =>
  have HP5 : Hid (pAsk s = (match pList s 8 j 0 with
              | .error e => .error e
              | .ok r => if skipB s r.2.1 < s.size then .error (2, skipB s r.2.1) else .ok (t.1, k.1, r.1))) := by rw [HP4.out, h4]; rfl
  obtain ⟨rfl, hr4⟩ := hok j h4
  have hj4 := (pSign_at h4).2
  have HPR6 := hidI (HPR5.out.away hA (by omega))
  have HPA6 := hidI (HPA5.out.away hA (by omega))
  have HA6 : Hid (Away b w w4) := HA5.out.trans hA
  have hcl := list_any 8 b s j 0 1 w4 (by omega) hr4 hj4 (by omega) hs
  clear hok herr hA hr4 HPR5 HPA5 HA5 HP4
  go_wp2_with fail
  refine hcl.mono ?_
  clear hcl
  rintro e w5 ⟨hok, herr, hA⟩
  cases h5 : pList s 8 j 0 with
  | error x =>
    have HF : Hid (pAsk s = .error x) := by rw [HP5.out, h5]; rfl
    rw [herr x h5]
    exact ⟨rfl, fun r h => (by rw [HF.out] at h; cases h), fun y h => (by rw [HF.out] at h; cases h; rfl), HA6.out.trans hA⟩
  | ok r =>
  have HP6 : Hid (pAsk s = if skipB s r.2.1 < s.size then .error (2, skipB s r.2.1) else .ok (t.1, k.1, r.1)) := by rw [HP5.out, h5]; rfl
  obtain ⟨a5, c5, rfl, hc5, hr5, hf5⟩ := hok r h5
  obtain ⟨-, hr52, -⟩ := (pList_goes s 8 j 0 hj4 (by omega)).1 r h5
  have HPR7 := hidI (HPR6.out.away hA (by omega))
  have pa5 := HPA6.out.away hA (by omega)
  have hA5' := HA6.out.trans hA
  have hsz4 := HA6.out.size
  have hlt4 := HPA6.out.lt
  have y2 := pa5.f2
  have q2 := pa5.c2
  generalize hX : w5.setCell ⟨w.heap.size + 1, 2, none⟩ (.slice a5 r.1.length c5) = X5
  have hrX : RBox X5 b s r.2.1 r.2.2 := by rw [← hX]; exact hr5.other (by omega)
  have HPA8 : Hid (ABox X5 (w.heap.size + 1) t.1 k.1 a5 r.1.length c5) := by rw [← hX]; exact pa5.set2 _ _ _
  have HPR8 : Hid (ABox X5 w.heap.size ⟨#[]⟩ ⟨#[]⟩ none 0 0) := by rw [← hX]; exact HPR7.out.other (by omega)
  have HA8 : Hid (Away b w X5) := by rw [← hX]; exact hA5'.setNew (by omega)
  have HF8 : Hid (PicksFree (fun q => q < w4.heap.size) X5 8 a5 r.1) := by
    refine hf5.step (by rw [← hX]; simp) (fun q hq hnq => ?_) (fun q _ hq => hq)
    have h1 : ¬ q < w4.heap.size := hnq
    rw [← hX, Below.heap_setCell _ _ _ _ (by show q ≠ w.heap.size + 1; omega)]
  have hcl := end_any b s r.2.1 r.2.2 X5 hrX hr52 hs
  clear hok herr hA hA5' pa5 hr5 hrX hf5 HPR7 HPR6 HPA6 HA6 HP5 h1 h2 h3 h4 h5
  generalize skipB s r.2.1 = k5 at *
  go_wp2_with fail
  clear hX y2 q2
  refine hcl.mono ?_
  clear hcl
  rintro e w6 ⟨hok, herr, hA⟩
  by_cases hlt : k5 < s.size
  · have HF : Hid (pAsk s = .error (2, k5)) := by rw [HP6.out, if_pos hlt]; rfl
    rw [herr hlt]
    exact ⟨rfl, fun r h => (by rw [HF.out] at h; cases h), fun y h => (by rw [HF.out] at h; cases h; rfl), HA8.out.trans hA⟩
  have HF : Hid (pAsk s = .ok (t.1, k.1, r.1)) := by rw [HP6.out, if_neg hlt]; rfl
  rw [hok hlt]
  have HPA9 := hidI (HPA8.out.away hA (by omega))
  have HPR9 := hidI (HPR8.out.away hA (by omega))
  have HA9 : Hid (Away b w w6) := HA8.out.trans hA
  have hbw : b < w4.heap.size := by omega
  have HF9 : Hid (PicksFree (fun q => q < w.heap.size) (((w6.setCell ⟨w.heap.size, 0, none⟩ (.string t.1)).setCell ⟨w.heap.size, 1, none⟩ (.string k.1)).setCell ⟨w.heap.size, 2, none⟩ (.slice a5 r.1.length c5)) 8 a5 r.1) := by
    refine HF8.out.step (by simpa using hA.size) (fun q hq hnq => ?_) (fun q _ hq => by show q < w4.heap.size; omega)
    have h1 : ¬ q < w4.heap.size := hnq
    rw [Below.heap_setCell _ _ _ _ (by show q ≠ w.heap.size; omega), Below.heap_setCell _ _ _ _ (by show q ≠ w.heap.size; omega), Below.heap_setCell _ _ _ _ (by show q ≠ w.heap.size; omega)]
    exact hA.block q hq (by omega)
  have q0 := HPA9.out.c0
  have q1 := HPA9.out.c1
  have q2 := HPA9.out.c2
  have z0 := HPR9.out.c0
  have z1 := HPR9.out.c1
  have z2 := HPR9.out.c2
  have y0 := HPR9.out.f0
  have y1 := HPR9.out.f1
  have y2 := HPR9.out.f2
  have HEA : Hid (Away b w (((w6.setCell ⟨w.heap.size, 0, none⟩ (.string t.1)).setCell ⟨w.heap.size, 1, none⟩ (.string k.1)).setCell ⟨w.heap.size, 2, none⟩ (.slice a5 r.1.length c5))) := ((HA9.out.setNew (Nat.le_refl _)).setNew (Nat.le_refl _)).setNew (Nat.le_refl _)
  clear hok herr hA hlt
  go_wp2_with fail
  exact bodyPost_ret (v := .agg #[.string t.1, .string k.1, .slice a5 r.1.length c5]) (by simp [results, Try.results33, go_sem, z0, z1, z2]) rfl ⟨fun r h => (by rw [HF.out] at h; cases h; exact ⟨a5, c5, rfl, hc5, HF9.out⟩), fun x h => (by rw [HF.out] at h; cases h), HEA.out⟩
end Go.Proofs.Ytjjggefmmeminab
