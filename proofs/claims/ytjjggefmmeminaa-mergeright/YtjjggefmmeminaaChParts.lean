import Derived.Test.YtjjggefmmeminaaChRight
import Derived.Test.YtjjggefmmeminaaChPlain2
import Derived.Test.YtjjggefmmeminaaChSame
/-
  The walk of stitchlaw2.ChangeParts: it answers true, and keeps what is there.
-/
namespace Go.Proofs.Ytjjggefmmeminaa
open Go.RowKit Go.Sort

theorem parts_bad {n m k : Nat} {T : Nat → LType} {C : Nat → PChange} (hk : k ≤ m) (hm : m ≤ 12) (h : (seeF n T k C).1 ≠ 0) : seeF n T m C = seeF n T k C := by
  by_cases h1 : (wrongS n T).1 = 0
  · rw [seeF_run h1 (by omega)] at h ⊢
    rw [seeF_run h1 (by omega)]
    exact fault_less hk h
  · rw [seeF_wrong h1, seeF_wrong h1]
theorem are_same {n : Nat} {T : Nat → LType} {S : Nat → PSeen} (h : TypesAre n T S) : SameT n S (initS T) := fun i hi => by
  obtain ⟨h1, h2, h3⟩ := h i hi
  exact ⟨h1, h2, fun j _ => by show (T i).F j = _; rw [h3]⟩
theorem parts_ok {n m k : Nat} {T T' : Nat → LType} {C : Nat → PChange} (hk : k ≤ m) (hm : m ≤ 12) (h : (seeF n T k C).1 = 0) (hT : TypesAre n T' (runS n (initS T) C k)) :
    (seeF n T m C).1 = (seeF n T' (m - k) (fun i => C (k + i))).1 ∧ ((seeF n T m C).1 ≠ 0 → (seeF n T m C).2 = (seeF n T' (m - k) (fun i => C (k + i))).2 + k ∧ 0 ≤ (seeF n T' (m - k) (fun i => C (k + i))).2 ∧ (seeF n T' (m - k) (fun i => C (k + i))).2 ≤ 12) ∧
    SameT n (runS n (initS T) C m) (runS n (initS T') (fun i => C (k + i)) (m - k)) := by
  have hR := seeF_right h
  have hw : (wrongS n T).1 = 0 := right_iff.2 hR
  have hw' : (wrongS n T').1 = 0 := types_right (right_run hR k) hT
  have hs := are_same hT
  rw [seeF_run hw (by omega)] at h
  have e : seeF n T' (m - k) (fun i => C (k + i)) = fault (m - k) (fun i => errS n (initS T) C (k + i)) := by
    rw [seeF_run hw' (by omega)]
    exact fault_congr fun j _ => by rw [hs.err]; exact (err_add n (initS T) C k j).symm
  obtain ⟨h1, h2⟩ := fault_more (g := errS n (initS T) C) hk h
  rw [seeF_run hw (by omega), e]
  refine ⟨h1, fun h0 => ⟨h2 h0, ?_⟩, ?_⟩
  · rcases fault_cases (m - k) (fun i => errS n (initS T) C (k + i)) with ⟨e1, _⟩ | ⟨q, hq, e1, _⟩
    · rw [e1]; exact ⟨by decide, by decide⟩
    · rw [e1]; exact ⟨by simp, by simp; omega⟩
  · have := hs.run (fun i => C (k + i)) (m - k)
    rw [← run_add, show k + (m - k) = m by omega] at this
    exact this

theorem ChangesAt.cut {w : World} {ca : Option Addr} {m k ccap : Nat} {C : Nat → PChange} (h : ChangesAt w ca m C) (hk : k ≤ m) (hc : m ≤ ccap) : ChangesAt w (if ccap = k then ca else Option.map (fun x => x.add (k * 4)) ca) (m - k) (fun i => C (k + i)) := by
  refine ⟨Nat.le_trans (Nat.sub_le _ _) h.1, fun i hi => ?_⟩
  obtain ⟨b, o, e, hc⟩ := h.2 (k + i) (by omega)
  subst e
  rw [if_neg (by omega)]
  refine ⟨b, o + k * 4, ?_, by rw [show o + k * 4 + i * 4 = o + (k + i) * 4 by omega]; exact hc⟩
  show some (Addr.add ⟨b, o, none⟩ (k * 4)) = _
  rw [WideShapes.add_plain]

/-- A block of another kind is written, or laid: what is seen stands. -/
theorem Seens.boxed {w Z : World} {b base n : Nat} {v : Value} {fv ov : Nat → Value} {S : Nat → PSeen} (h : Seens w base v n fv ov S) (keep : ∀ k, k < w.heap.size → k ≠ b → Z.heap[k]? = w.heap[k]?) (hb : ∀ o, w.heap[b]? = some o → ∃ c, o = .cells c 30 (0, 0)) : Seens Z base v n fv ov S := by
  have ne : ∀ {e size m : Nat} {u : Value} {f : Nat → Value}, e ≠ 30 → Row w base e size u m f → ∀ k, u.ownBlock = some k → Z.heap[k]? = w.heap[k]? := fun he hr k hk => keep k (hr.lt hk).2 (fun e => by
    obtain ⟨c, hc⟩ := hr.obj hk
    subst e
    obtain ⟨c', e'⟩ := hb _ hc
    simp at e'
    exact he e'.2)
  exact ⟨h.nmax, h.row.at (ne (by decide) h.row), fun i hi => (h.fields i hi).at (ne (by decide) (h.fields i hi)), fun i hi => (h.owns i hi).at (ne (by decide) (h.owns i hi)), h.fapart, h.oapart, h.good⟩

set_option maxRecDepth 100000 in
set_option maxHeartbeats 4000000 in
theorem parts_any (a ca : Option Addr) (n cap m ccap : Nat) (T : Nat → LType) (C : Nat → PChange) (z : Int) (w : World) (hT : TypesAt w a n T) (hC : ChangesAt w ca m C) (hcap : n ≤ cap) (hccap : m ≤ ccap) :
    Calls Try.prog 8 #[.slice a n cap, .slice ca m ccap, .int .i64 z] w fun e w' => e = .returned (.bool true) ∧ Below w.heap.size w w' := by
  have hfd := field0_run
  have hm' : m ≤ 9223372036854775807 := hC.1
  have HT : Hid (TypesAt w a n T) := hT
  have HC : Hid (ChangesAt w ca m C) := hC
  clear hT hC
  by_cases hz : z < 0 ∨ (m : Int) < z ∨ 12 < (m : Int)
  · go_enter Try.func8, Try.ntmps8
    go_wp2_with fail
    refine (alive2_any w).mono ?_
    rintro e w1 ⟨rfl, hB1⟩
    have HB1 : Hid (Below w.heap.size w w1) := hB1
    clear hB1
    rcases (show z < 0 ∨ (0 ≤ z ∧ (m : Int) < z) ∨ (0 ≤ z ∧ z ≤ (m : Int) ∧ 12 < (m : Int)) by omega) with h | ⟨h, h'⟩ | ⟨h, h', h''⟩
    · go_wp2_with fail
      go_ret
      exact ⟨rfl, HB1.out⟩
    · go_wp2_with fail
      go_ret
      exact ⟨rfl, HB1.out⟩
    · go_wp2_with fail
      go_ret
      exact ⟨rfl, HB1.out⟩
  obtain ⟨k, rfl⟩ : ∃ k : Nat, z = (k : Int) := ⟨z.toNat, by omega⟩
  have hk : k ≤ m := by omega
  have hm : m ≤ 12 := by omega
  have hkm : (k : Int) ≤ (m : Int) := by omega
  have hk0 : (0 : Int) ≤ (k : Int) := by omega
  have hm12 : (m : Int) ≤ 12 := by omega
  have hkc : k ≤ ccap := by omega
  clear hz
  go_enter Try.func8, Try.ntmps8
  go_wp2_with fail
  refine (alive2_any w).mono ?_
  rintro e w1 ⟨rfl, hB1⟩
  go_wp2_with fail
  refine (see_any a ca n cap m ccap T C w1 (HT.out.kept hB1) (HC.out.kept hB1) hcap).mono ?_
  rintro e w2 ⟨⟨v, rfl, hno, hyes⟩, hw2⟩
  have hB2 := hB1.trans (hw2.mono hB1.size)
  have HNO : Hid ((seeF n T m C).1 ≠ 0 → v = .slice none 0 0) := hno
  have HYES : Hid ((seeF n T m C).1 = 0 → ∃ fv ov, Seens w2 w1.heap.size v n fv ov (runS n (initS T) C m)) := hyes
  clear hw2 hB1 hno hyes
  unfold faultV
  generalize hr : seeF n T m C = r at *
  have HR : Hid (seeF n T m C = r) := hr
  clear hr
  generalize hW : w2.alloc (Obj.cells #[.int .i64 r.1, .int .i64 r.2] 30) = W
  have hBW : Below w2.heap.size w2 W := by rw [← hW]; exact below1 _ _
  have k0 : W.cell? ⟨w2.heap.size, 0, none⟩ = some (.int .i64 r.1) := by rw [← hW, World.cell?_alloc_at _ _ _ _ rfl]; rfl
  have k1 : W.cell? ⟨w2.heap.size, 1, none⟩ = some (.int .i64 r.2) := by rw [← hW, World.cell?_alloc_at _ _ _ _ rfl]; rfl
  have hBWw : Below w.heap.size w W := hB2.trans (hBW.mono hB2.size)
  have HBWw : Hid (Below w.heap.size w W) := hBWw
  have HBW : Hid (Below w2.heap.size w2 W) := hBW
  have hcl := see_any a ca n cap k ccap T C W (HT.out.kept hBWw) ((HC.out.kept hBWw).less hk) hcap
  clear hB2 hBW hBWw
  go_wp2_with fail
  clear hW
  generalize hbf2 : w2.heap.size = bf at *
  have HBF2 : Hid (w2.heap.size = bf) := hbf2
  clear hbf2
  refine hcl.mono ?_
  clear hcl
  rintro e w3 ⟨⟨v3, rfl, -, hyes⟩, hw3⟩
  have HB3 : Hid (Below w.heap.size w w3) := HBWw.out.trans (hw3.mono HBWw.out.size)
  have l0 := keptCell hw3 k0
  have l1 := keptCell hw3 k1
  have HYES3 : Hid ((seeF n T k C).1 = 0 → ∃ fv ov, Seens w3 W.heap.size v3 n fv ov (runS n (initS T) C k)) := hyes
  have HW3 : Hid (Below W.heap.size W w3) := hw3
  clear hyes k0 k1 hw3
  unfold faultV
  generalize hq : seeF n T k C = q at *
  have HQ : Hid (seeF n T k C = q) := hq
  clear hq
  generalize hX : w3.alloc (Obj.cells #[.int .i64 q.1, .int .i64 q.2] 30) = X
  have hBX : Below w3.heap.size w3 X := by rw [← hX]; exact below1 _ _
  have x0 : X.cell? ⟨w3.heap.size, 0, none⟩ = some (.int .i64 q.1) := by rw [← hX, World.cell?_alloc_at _ _ _ _ rfl]; rfl
  have x1 : X.cell? ⟨w3.heap.size, 1, none⟩ = some (.int .i64 q.2) := by rw [← hX, World.cell?_alloc_at _ _ _ _ rfl]; rfl
  have m0 := keptCell hBX l0
  have m1 := keptCell hBX l1
  have HBX : Hid (Below w.heap.size w X) := HB3.out.trans (hBX.mono HB3.out.size)
  have HBX3 : Hid (Below w3.heap.size w3 X) := hBX
  clear hBX l0 l1
  by_cases h1 : q.1 = 0
  case neg =>
    have h1b : (q.1 != 0) = true := by simpa using h1
    have hrq : r = q := by rw [← HR.out, ← HQ.out]; exact parts_bad hk hm (by rw [HQ.out]; exact h1)
    subst hrq
    clear h1
    go_wp2_with fail
    go_ret
    exact ⟨rfl, HBX.out⟩
  have h1b : (q.1 != 0) = false := by simpa using h1
  have H1 : Hid (q.1 = 0) := h1
  obtain ⟨fv, ov, hS⟩ := HYES3.out h1
  obtain ⟨va, vc, rfl, -⟩ := hS.slice
  have hRS : RightS n (runS n (initS T) C k) := right_run (seeF_right (by rw [HQ.out]; exact h1)) k
  have HS : Hid (Seens X W.heap.size (.slice va n vc) n fv ov (runS n (initS T) C k)) := hS.kept HBX3.out
  have hn8 : n ≤ 8 := hRS.few
  have HNF : Hid (∀ i, i < n → (runS n (initS T) C k i).nf ≤ 1000) := fun i hi => by have := (hRS.fld i hi).few; omega
  clear h1 hS hRS
  go_wp2_with fail
  clear hX
  have HBF : Hid (bf < X.heap.size) := block_lt_of_cell m0
  have HTY : Hid (∀ Y, Below X.heap.size X Y → Calls Try.prog 30 #[.slice va n vc] Y fun e w' => (∃ ta tc T', e = .returned (.slice ta n tc) ∧ n ≤ tc ∧ TypesAt w' ta n T' ∧ TypesAre n T' (runS n (initS T) C k)) ∧ Below Y.heap.size Y w' ∧ Below X.heap.size X w') := fun Y hY => (types_any _ n _ fv ov _ Y (HS.out.kept hY) (by omega) HNF.out).mono fun e w' h => ⟨h.1, h.2, hY.trans (h.2.mono hY.size)⟩
  obtain ⟨A, hA⟩ : ∃ A, (if ccap = k then ca else Option.map (fun x => x.add (k * 4)) ca) = A := ⟨_, rfl⟩
  have HCA : Hid (ChangesAt X A (m - k) (fun i => C (k + i))) := by rw [← hA]; exact (HC.out.kept HBX.out).cut hk hccap
  have hb0 : Below X.heap.size X X.drew := (Below.refl _ _).drew
  have hb1 : Below X.heap.size X (X.drew.alloc (Obj.cells #[.int .i64 0, .int .i64 0] 30)) := hb0.alloc (Nat.le_refl _) _
  have hx1 : Hid ((X.drew.alloc (Obj.cells #[.int .i64 0, .int .i64 0] 30)).heap[X.heap.size]? = some (.cells #[.int .i64 0, .int .i64 0] 30 (0, 0))) := heap_alloc_new X.drew _
  have HSE : Hid (∀ (ta : Option Addr) (tc : Nat) (T' : Nat → LType) (Y : World), Below X.heap.size X Y → TypesAt Y ta n T' → n ≤ tc → Calls Try.prog 26 #[.slice ta n tc, .slice A (m - k) (ccap - k)] Y fun e w' => (∃ v, e = .returned (.tuple #[v, .agg #[.int .i64 (seeF n T' (m - k) (fun i => C (k + i))).1, .int .i64 (seeF n T' (m - k) (fun i => C (k + i))).2]]) ∧ ((seeF n T' (m - k) (fun i => C (k + i))).1 = 0 → ∃ fv ov, Seens w' Y.heap.size v n fv ov (runS n (initS T') (fun i => C (k + i)) (m - k)))) ∧ Below Y.heap.size Y w') := fun ta tc T' Y hY hTY htc => (see_any ta A n tc (m - k) (ccap - k) T' (fun i => C (k + i)) Y hTY (HCA.out.kept hY) htc).mono fun e w' h => by
    obtain ⟨⟨v, h1, -, h2⟩, h3⟩ := h
    exact ⟨⟨v, h1, h2⟩, h3⟩
  have HPO : Hid (∀ T', TypesAre n T' (runS n (initS T) C k) → r.1 = (seeF n T' (m - k) (fun i => C (k + i))).1 ∧ (r.1 ≠ 0 → r.2 = (seeF n T' (m - k) (fun i => C (k + i))).2 + k ∧ 0 ≤ (seeF n T' (m - k) (fun i => C (k + i))).2 ∧ (seeF n T' (m - k) (fun i => C (k + i))).2 ≤ 12) ∧ SameT n (runS n (initS T) C m) (runS n (initS T') (fun i => C (k + i)) (m - k))) := fun T' hTA => by
    rw [← HR.out]
    exact parts_ok hk hm (by rw [HQ.out]; exact H1.out) hTA
  have HSB : Hid (∀ (ta : Option Addr) (tc : Nat) (T' : Nat → LType) (w5 : World), Below X.heap.size X w5 → TypesAt w5 ta n T' → n ≤ tc → Calls Try.prog 26 #[.slice ta n tc, .slice A (m - k) (ccap - k)] (w5.alloc (Obj.cells #[.int .i64 0, .int .i64 0] 30)) fun e w' => (∃ v, e = .returned (.tuple #[v, .agg #[.int .i64 (seeF n T' (m - k) (fun i => C (k + i))).1, .int .i64 (seeF n T' (m - k) (fun i => C (k + i))).2]]) ∧ ((seeF n T' (m - k) (fun i => C (k + i))).1 = 0 → ∃ b fv ov, Seens w' b v n fv ov (runS n (initS T') (fun i => C (k + i)) (m - k)))) ∧ Below X.heap.size X w' ∧ w'.heap[w5.heap.size]? = some (.cells #[.int .i64 0, .int .i64 0] 30 (0, 0))) := fun ta tc T' w5 hY hTY htc => (HSE.out ta tc T' _ (hY.alloc hY.size _) (hTY.kept (below1 w5 _)) htc).mono fun e w' h => by
    obtain ⟨⟨v, h1, h2⟩, h3⟩ := h
    have hz : w5.heap.size < (w5.alloc (Obj.cells #[.int .i64 0, .int .i64 0] 30)).heap.size := by simp
    exact ⟨⟨v, h1, fun h0 => ⟨_, h2 h0⟩⟩, (hY.alloc hY.size _).trans (h3.mono (by have := hY.size; omega)), (h3.block _ hz).trans (heap_alloc_new _ _)⟩
  have HSC : Hid (∀ (ta : Option Addr) (tc : Nat) (T' : Nat → LType) (w5 : World), Below X.heap.size X w5 → TypesAt w5 ta n T' → n ≤ tc → Calls Try.prog 26 #[.slice ta n tc, .slice A (m - k) (ccap - k)] w5 fun e w' => (∃ v, e = .returned (.tuple #[v, .agg #[.int .i64 (seeF n T' (m - k) (fun i => C (k + i))).1, .int .i64 (seeF n T' (m - k) (fun i => C (k + i))).2]]) ∧ ((seeF n T' (m - k) (fun i => C (k + i))).1 = 0 → ∃ b fv ov, Seens w' b v n fv ov (runS n (initS T') (fun i => C (k + i)) (m - k)))) ∧ Below X.heap.size X w' ∧ Below w5.heap.size w5 w') := fun ta tc T' w5 hY hTY htc => (HSE.out ta tc T' _ hY hTY htc).mono fun e w' h => by
    obtain ⟨⟨v, h1, h2⟩, h3⟩ := h
    exact ⟨⟨v, h1, fun h0 => ⟨_, h2 h0⟩⟩, hY.trans (h3.mono hY.size), h3⟩
  clear HSE
  go_region_law (first
    | (go_simp; go_at_call 26; refine (HSB.out ta tc T' w5 HX5.out HT5.out htc).mono ?_; rintro e w6 ⟨⟨v6, rfl, hyes6⟩, hX6, hbx6⟩; obtain ⟨y0, y1, z0, z1⟩ := box_cells hbx6; have HYES6 := Hid.intro hyes6; have HX6 := Hid.intro hX6; have HBX6 := Hid.intro hbx6; clear hyes6 hX6 hbx6)
    | (go_simp; go_at_call 26; refine (HSC.out ta tc T' w5 HX5.out HT5.out htc).mono ?_; rintro e w6 ⟨⟨v6, rfl, hyes6⟩, hX6, hb6⟩; have hbx6 := (hb6.block _ (lt_of_block HBX5.out)).trans HBX5.out; obtain ⟨y0, y1, z0, z1⟩ := box_cells hbx6; have HYES6 := Hid.intro hyes6; have HX6 := Hid.intro hX6; have HBX6 := Hid.intro hbx6; clear hyes6 hX6 hb6 hbx6)
    | (go_simp; go_at_call 26; refine (HSC.out ta tc T' w5 HX5.out HT5.out htc).mono ?_; rintro e w6 ⟨⟨v6, rfl, hyes6⟩, hX6, hb6⟩; have HYES6 := Hid.intro hyes6; have HX6 := Hid.intro hX6; clear hyes6 hX6 hb6)
    | (go_simp; go_at_call 30; refine (HTY.out _ hb0).mono ?_; rintro e w5 ⟨⟨ta, tc, T', rfl, htc, hT', hTA⟩, hb5, hbX5⟩; have HT5 := Hid.intro hT'; have HTA := Hid.intro hTA; have HX5 := Hid.intro hbX5; clear hT' hTA hb5 hbX5)
    | (go_simp; go_at_call 30; refine (HTY.out _ hb1).mono ?_; rintro e w5 ⟨⟨ta, tc, T', rfl, htc, hT', hTA⟩, hb5, hbX5⟩; have HBX5 : Hid (w5.heap[X.heap.size]? = some (.cells #[.int .i64 0, .int .i64 0] 30 (0, 0))) := (hb5.block _ (lt_of_block hx1.out)).trans hx1.out; have HT5 := Hid.intro hT'; have HTA := Hid.intro hTA; have HX5 := Hid.intro hbX5; clear hT' hTA hb5 hbX5))
  all_goals (
    obtain ⟨p1, p2, p3⟩ := HPO.out T' HTA.out
    have P1 := Hid.intro p1
    have P2 := Hid.intro p2
    have P3 := Hid.intro p3
    have hRb : RightS n (runS n (initS T') (fun i => C (k + i)) (m - k)) := right_run (show RightS n (initS T') from right_iff.1 (types_right (right_run (seeF_right (by rw [HQ.out]; exact H1.out)) k) HTA.out)) (m - k)
    have HRb := Hid.intro hRb
    clear p1 p2 p3 hRb HPO
    generalize runS n (initS T') (fun i => C (k + i)) (m - k) = Sb at *
    generalize seeF n T' (m - k) (fun i => C (k + i)) = h at *)
  all_goals (first
    | (have hB : Boxed w6 ((w6.setCell ⟨w5.heap.size, 0, none⟩ (.int .i64 h.1)).setCell ⟨w5.heap.size, 1, none⟩ (.int .i64 h.2)) w5.heap.size h.1 h.2 := boxed_set HBX6.out
       have HBH : Hid (bf < w5.heap.size ∧ w.heap.size ≤ w5.heap.size) := ⟨Nat.lt_of_lt_of_le HBF.out HX5.out.size, Nat.le_trans HBX.out.size HX5.out.size⟩
       generalize (w6.setCell ⟨w5.heap.size, 0, none⟩ (.int .i64 h.1)).setCell ⟨w5.heap.size, 1, none⟩ (.int .i64 h.2) = Z at hB ⊢
       generalize w5.heap.size = bh at hB HBH ⊢)
    | (have hB : Boxed w6 ((w6.setCell ⟨X.heap.size, 0, none⟩ (.int .i64 h.1)).setCell ⟨X.heap.size, 1, none⟩ (.int .i64 h.2)) X.heap.size h.1 h.2 := boxed_set HBX6.out
       have HBH : Hid (bf < X.heap.size ∧ w.heap.size ≤ X.heap.size) := ⟨HBF.out, HBX.out.size⟩
       generalize (w6.setCell ⟨X.heap.size, 0, none⟩ (.int .i64 h.1)).setCell ⟨X.heap.size, 1, none⟩ (.int .i64 h.2) = Z at hB ⊢
       generalize X.heap.size = bh at hB HBH ⊢)
    | (have hB := boxed_alloc w6 h.1 h.2
       have HBH : Hid (bf < w6.heap.size ∧ w.heap.size ≤ w6.heap.size) := ⟨Nat.lt_of_lt_of_le HBF.out HX6.out.size, Nat.le_trans HBX.out.size HX6.out.size⟩
       generalize w6.alloc (.cells #[.int .i64 h.1, .int .i64 h.2] 30) = Z at hB ⊢
       generalize w6.heap.size = bh at hB HBH ⊢))
  all_goals (
    have HZ : Hid (Below w.heap.size w Z) := hB.below (HBX.out.trans (HX6.out.mono HBX.out.size)) HBH.out.2 (Nat.le_trans HBX.out.size HX6.out.size)
    have s0 := hB.cell (keptCell HX6.out m0) (show bf ≠ bh by have := HBH.out.1; omega)
    have s1 := hB.cell (keptCell HX6.out m1) (show bf ≠ bh by have := HBH.out.1; omega)
    have t0 := hB.c0
    have t1 := hB.c1
    have HB := Hid.intro hB
    clear hB m0 m1 x0 x1
    try clear y0 y1 z0 z1
    by_cases h2 : h.1 = 0
    · have h2b : (h.1 != 0) = false := by simpa using h2
      have hr1 : r.1 = 0 := P1.out.trans h2
      have hr1b : (r.1 != 0) = false := by simpa using hr1
      obtain ⟨bb, fv6, ov6, hS6⟩ := HYES6.out h2
      obtain ⟨fv2, ov2, hS2⟩ := HYES.out hr1
      have hSv : Seens Z w1.heap.size v n fv2 ov2 (runS n (initS T) C m) := ((((hS2.kept (by rw [HBF2.out]; exact HBW.out)).kept HW3.out).kept HBX3.out).kept HX6.out).boxed HB.out.keep HB.out.old
      have hSb : Seens Z bb v6 n fv6 ov6 Sb := hS6.boxed HB.out.keep HB.out.old
      have hRv : RightS n (runS n (initS T) C m) := right_run (seeF_right (by rw [HR.out]; exact hr1)) m
      obtain ⟨va2, vc2, rfl, -⟩ := hSv.slice
      obtain ⟨va6, vc6, rfl, -⟩ := hSb.slice
      have hcl := types_any _ n _ fv2 ov2 _ Z hSv (by omega) (fun i hi => by have := (hRv.fld i hi).few; omega)
      have HSb := Hid.intro hSb
      clear h2 hr1 hS6 hS2 hSv hSb hRv
      go_wp2_with fail
      refine hcl.mono ?_
      clear hcl
      rintro e w7 ⟨⟨ta7, tc7, T7, rfl, htc7, hT7, hTA7⟩, hb7⟩
      have HB7 : Hid (Below w.heap.size w w7) := HZ.out.trans (hb7.mono HZ.out.size)
      have hcl := types_any _ n _ fv6 ov6 _ w7 (HSb.out.kept hb7) (by omega) (fun i hi => by have := (HRb.out.fld i hi).few; omega)
      have HT7 := Hid.intro hT7
      have HTA7 := Hid.intro hTA7
      clear hb7 hT7 hTA7 t0 t1 s0 s1
      go_wp2_with fail
      refine hcl.mono ?_
      clear hcl
      rintro e w8 ⟨⟨ta8, tc8, T8, rfl, htc8, hT8, hTA8⟩, hb8⟩
      have HB8 : Hid (Below w.heap.size w w8) := HB7.out.trans (hb8.mono HB7.out.size)
      have hcl := sameTypes_any ta7 ta8 n tc7 tc8 T7 T8 w8 (HT7.out.kept hb8) hT8 (fun i hi => by
        obtain ⟨a1, a2, a3⟩ := HTA7.out i hi
        obtain ⟨b1, b2, b3⟩ := hTA8 i hi
        obtain ⟨c1, c2, c3⟩ := P3.out i hi
        rw [a1, a2, a3, b1, b2, b3]
        exact ⟨c1, c2, c3⟩)
      clear hb8 hT8 hTA8
      go_wp2_with fail
      refine hcl.mono ?_
      clear hcl
      rintro e w9 ⟨rfl, hb9⟩
      have HB9 : Hid (Below w.heap.size w w9) := HB8.out.trans (hb9.mono HB8.out.size)
      clear hb9
      go_wp2_with fail
      go_ret
      exact ⟨rfl, HB9.out⟩
    · have h2b : (h.1 != 0) = true := by simpa using h2
      have hrr := P1.out
      obtain ⟨e2, e3, e4⟩ := P2.out (by rw [hrr]; exact h2)
      rw [hrr] at s0
      rw [e2] at s1
      have e5 : (-9223372036854775808 : Int) ≤ h.2 + (k : Int) := by omega
      have e6 : h.2 + (k : Int) ≤ 9223372036854775807 := by omega
      clear h2 hrr e2
      go_wp2_with fail
      go_ret
      exact ⟨rfl, HZ.out⟩)
end Go.Proofs.Ytjjggefmmeminaa
