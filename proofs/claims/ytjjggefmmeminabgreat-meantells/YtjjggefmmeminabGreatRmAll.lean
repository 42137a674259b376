import Derived.Test.YtjjggefmmeminabGreatJRm
import Derived.Test.YtjjggefmmeminabGreatRmTyp
import Derived.Deep.CutBlock
/-
  The contract of stitchref1.All: what is wrong, or all services' schemas, put together.
-/
namespace Go.Proofs.YtjjggefmmeminabGreat
open Go.RowKit Go.Sort Go.PlainAid

theorem RS.rebox' {w w' : World} {base bs bs' n : Nat} {fv : Value} {rows : Nat → Value} {len : Nat → Nat} {txt : Nat → Nat → ByteArray} (h : RS w base bs n fv rows len txt) (hb : Below w.heap.size w w') (hbs : base ≤ bs') (hbox : w'.heap[bs']? = some (.cells #[rows 0, rows 1, fv] 107 (0, 0))) : RS w' base bs' n fv rows len txt :=
  ⟨hbs, hbox, h.frow.kept hb, fun k hk => (h.texts k hk).kept hb, h.apart, h.lens, h.good, h.nmax⟩
theorem serv_kind {w : World} {s : LServ} (h : ServOk w s) : ∀ i, i < s.nt → ∀ j, j < (s.T i).nf → (Lit.int .i64 ((s.T i).F j).kind).wf = true := fun i hi j hj => by
  obtain ⟨-, -, -, -, -, -, -, hF⟩ := h.types.2 i hi
  obtain ⟨-, -, -, -, -, -, -, -, hk⟩ := hF.2 j hj
  exact hk

/-- 'return nil, api.Fault{..}': what the call ends with. -/
theorem err_ends {a' : Act} {w U : World} {n : Nat} {V : Nat → LServ} {k : Int} (hE : allF n V = (6, k)) (hbox : U.heap[w.heap.size]? = some (.cells #[.int .i64 0, .int .i64 0] 39 (0, 0))) (hd : a'.defers = []) (h2 : a'.tmps.getD 2 undef = .slice none 0 0) (h3 : a'.tmps.getD 3 undef = .pointer (some ⟨w.heap.size, 0, none⟩))
    (hKZ : Below w.heap.size w ((U.setCell ⟨w.heap.size, 0, none⟩ (.int .i64 6)).setCell ⟨w.heap.size, 1, none⟩ (.int .i64 k))) :
    bodyPost Tryz.prog Tryz.f17 (fun e w' => (∃ va vn vc, e = .returned (.tuple #[.slice va vn vc, faultV (allF n V)]) ∧ ((allF n V).1 ≠ 0 → va = none ∧ vn = 0 ∧ vc = 0) ∧ ((allF n V).1 = 0 → ∃ rv, Parts (fun b => b < w.heap.size) w' (.slice va vn vc) (allP (ntS V) (seenA V) n) rv)) ∧ Below w.heap.size w w') .ret a' ((U.setCell ⟨w.heap.size, 0, none⟩ (.int .i64 6)).setCell ⟨w.heap.size, 1, none⟩ (.int .i64 k)) := by
  have y : ((U.setCell ⟨w.heap.size, 0, none⟩ (.int .i64 6)).setCell ⟨w.heap.size, 1, none⟩ (.int .i64 k)).heap[w.heap.size]? = some (.cells #[.int .i64 6, .int .i64 k] 39 (0, 0)) := by
    have y1 := heap_setCell_same U w.heap.size 0 _ 39 (.int .i64 6) hbox
    rw [heap_setCell_same _ w.heap.size 1 _ 39 (.int .i64 k) y1]; rfl
  generalize (U.setCell ⟨w.heap.size, 0, none⟩ (.int .i64 6)).setCell ⟨w.heap.size, 1, none⟩ (.int .i64 k) = Z at *
  have x0 : Z.cell? ⟨w.heap.size, 0, none⟩ = some (.int .i64 6) := by simp [World.cell?, y]
  have x1 : Z.cell? ⟨w.heap.size, 1, none⟩ = some (.int .i64 k) := by simp [World.cell?, y]
  rw [Array.getD_eq_getD_getElem?] at h2 h3
  refine bodyPost_ret (v := .tuple #[.slice none 0 0, .agg #[.int .i64 6, .int .i64 k]]) (by simp [results, Tryz.results17, go_sem, h2, h3, x0, x1]) hd ⟨⟨none, 0, 0, by rw [hE]; rfl, fun _ => ⟨rfl, rfl, rfl⟩, fun h => absurd h (by rw [hE]; show ¬ (6 : Int) = 0; decide)⟩, hKZ⟩

set_option maxRecDepth 100000 in
set_option maxHeartbeats 80000000 in
theorem refAllN_any (a : Option Addr) (n cap : Nat) (V : Nat → LServ) (w : World) (hS : ServsAt w a n V) :
    Calls Tryz.prog 17 #[.slice a n cap] w fun e w' => (∃ va vn vc, e = .returned (.tuple #[.slice va vn vc, faultV (allF n V)]) ∧ ((allF n V).1 ≠ 0 → va = none ∧ vn = 0 ∧ vc = 0) ∧ ((allF n V).1 = 0 → ∃ rv, Parts (fun b => b < w.heap.size) w' (.slice va vn vc) (allP (ntS V) (seenA V) n) rv)) ∧ Below w.heap.size w w' := by
  have hn : n ≤ 9223372036854775807 := hS.1
  have HS := Hid.intro hS
  clear hS
  generalize hW : w.alloc (Obj.cells #[.int .i64 0, .int .i64 0] 39) = W
  have hBW : Below w.heap.size w W := by rw [← hW]; exact below1 _ _
  have hbf : W.heap[w.heap.size]? = some (.cells #[.int .i64 0, .int .i64 0] 39 (0, 0)) := by rw [← hW]; exact heap_alloc_new _ _
  have hcl := refWS_any a n cap V W (HS.out.kept hBW)
  have HBW := Hid.intro hBW
  have HBF := Hid.intro hbf
  clear hBW hbf
  have HD : Hid (allF n V = if (wrongF n V).1 ≠ 0 then wrongF n V else fault n (errA (ntS V) (seenA V))) := rfl
  have HOK := Hid.intro (wrongF_ok (n := n) (V := V))
  generalize wrongF n V = r at *
  unfold faultV at hcl
  go_enter Tryz.func17, Tryz.ntmps17
  go_wp2_with fail
  clear hW
  refine hcl.mono ?_
  clear hcl
  rintro e w1 ⟨rfl, hw1⟩
  generalize hX : w1.alloc (Obj.cells #[.int .i64 r.1, .int .i64 r.2] 39) = X
  have hBX : Below w1.heap.size w1 X := by rw [← hX]; exact below1 _ _
  have d0 : X.cell? ⟨w1.heap.size, 0, none⟩ = some (.int .i64 r.1) := by rw [← hX, World.cell?_alloc_at _ _ _ _ rfl]; rfl
  have d1 : X.cell? ⟨w1.heap.size, 1, none⟩ = some (.int .i64 r.2) := by rw [← hX, World.cell?_alloc_at _ _ _ _ rfl]; rfl
  have hWX : Below W.heap.size W X := hw1.trans (hBX.mono hw1.size)
  have hbfX := (hWX.block _ (lt_of_block HBF.out)).trans HBF.out
  have HX : Hid (Below w.heap.size w X) := HBW.out.trans (hWX.mono HBW.out.size)
  have HBFX := Hid.intro hbfX
  clear hBX hWX hw1 hbfX HBF
  by_cases h0 : r.1 = 0
  case neg =>
    have hb : (r.1 != 0) = true := by simpa using h0
    have HE : Hid (allF n V = r) := by rw [HD.out, if_pos h0]; rfl
    have H0 := Hid.intro h0
    obtain ⟨x0, x1, z0, z1⟩ := box_cells HBFX.out
    have HKZ : Hid (Below w.heap.size w ((X.setCell ⟨w.heap.size, 0, none⟩ (.int .i64 r.1)).setCell ⟨w.heap.size, 1, none⟩ (.int .i64 r.2))) := (HX.out.setCell (Nat.le_refl _) _).setCell (Nat.le_refl _) _
    clear h0
    go_wp2_with fail
    clear hX
    go_region
    go_wp2_with fail
    exact bodyPost_ret (v := .tuple #[.slice none 0 0, .agg #[.int .i64 r.1, .int .i64 r.2]]) (by simp [results, Tryz.results17, go_sem, x0, x1]) rfl ⟨⟨none, 0, 0, by rw [HE.out]; rfl, fun _ => ⟨rfl, rfl, rfl⟩, fun h => absurd (by rw [HE.out] at h; exact h) H0.out⟩, HKZ.out.drew⟩
  have hb : (r.1 != 0) = false := by simpa using h0
  have HE : Hid (allF n V = fault n (errA (ntS V) (seenA V))) := by rw [HD.out, if_neg (fun h => h h0)]; rfl
  obtain ⟨hn5, hokA⟩ := HOK.out h0
  have HOKj : Hid (∀ j, j < n → (seeE (V j)).1 = 0) := fun j hj => (hokA j hj).1
  clear h0 HD HOK hokA
  go_wp2_with fail
  clear hX d0 d1
  obtain ⟨ZX, hZX⟩ : ∃ ZX : Nat → Prop, ZX = fun b => b < X.heap.size := ⟨_, rfl⟩
  have HZX : Hid (∀ b, ZX b ↔ b < X.heap.size) := fun b => by rw [hZX]
  clear hZX
  go_loopw [5, 26] (fun v i wr => ∃ k : Nat, k ≤ n ∧ i = .int .i64 k ∧ Hid (∀ j, j < k → errA (ntS V) (seenA V) j = 0) ∧ Keep ZX X wr ∧ ∃ rk, Parts ZX wr v (allP (ntS V) (seenA V) k) rk) (fun _ i _ => n - (intOf i).toNat)
  case atStart => exact ⟨0, Nat.zero_le _, rfl, (fun j hj => absurd hj (Nat.not_lt_zero _)), Keep.refl _ _, fun _ _ => undef, parts_nil _ _ _⟩
  case round =>
    obtain ⟨k, hk, rfl, hcl, hKr, rk, hPr⟩ := hrel
    have HCL := Hid.intro hcl
    clear hcl
    obtain ⟨pa, pc, hpv, -⟩ := hPr.slice
    subst hpv
    have hXr : Below X.heap.size X wr := hKr.below fun b hb => (HZX.out b).2 hb
    have hwr : Below w.heap.size w wr := HX.out.trans (hXr.mono HX.out.size)
    by_cases hlt : k < n
    · obtain ⟨sb, so, hsa, hs⟩ := (HS.out.kept hwr).2 k hlt
      have c0 := hs.c0
      have c1 := hs.c1
      have c2 := hs.c2
      rw [hsa]
      have hlt' : (k : Int) < (n : Int) := by omega
      have hk0 : (0 : Int) ≤ (k : Int) := by omega
      generalize hA : wr.alloc (Obj.cells #[.slice (V k).ta (V k).nt (V k).tcap, .slice (V k).ca (V k).nc (V k).ccap, .slice (V k).xa (V k).nx (V k).xcap] 81) = D
      have hBD : Below wr.heap.size wr D := by rw [← hA]; exact below1 _ _
      have hbx : D.heap[wr.heap.size]? = some (.cells #[.slice (V k).ta (V k).nt (V k).tcap, .slice (V k).ca (V k).nc (V k).ccap, .slice (V k).xa (V k).nx (V k).xcap] 81 (0, 0)) := by rw [← hA]; exact heap_alloc_new _ _
      have b0 : D.cell? ⟨wr.heap.size, 0, none⟩ = some (.slice (V k).ta (V k).nt (V k).tcap) := by simp [World.cell?, hbx]
      have b1 : D.cell? ⟨wr.heap.size, 1, none⟩ = some (.slice (V k).ca (V k).nc (V k).ccap) := by simp [World.cell?, hbx]
      have hokD := hs.ok.kept hBD
      have hcl := refSee_any (V k).ta (V k).ca (V k).nt (V k).tcap (V k).nc (V k).ccap (V k).T (V k).C D hokD.types hokD.changes hokD.tcap
      rw [see_same] at hcl
      have hE0 : (seeF (V k).nt (V k).T (V k).nc (V k).C).1 = 0 := HOKj.out k hlt
      have HOKD := Hid.intro hokD
      have HBD := Hid.intro hBD
      have HBX := Hid.intro hbx
      have HPR := Hid.intro hPr
      have HKR := Hid.intro hKr
      have HXR := Hid.intro hXr
      clear hs hbx hBD hPr hKr hXr hwr hokD
      go_wp2_with fail
      clear hA c0 c1 c2
      refine hcl.mono ?_
      clear hcl
      rintro e w2 ⟨⟨x0, x1, fv, rfl, hrs, ⟨y0, l0, t0, rfl⟩, ⟨y1, l1, t1, rfl⟩, ⟨y2, l2, t2, rfl⟩⟩, hw2⟩
      obtain ⟨base, bs, rows, e0, e1, hrs⟩ := hrs hE0
      have hE0' : seeF (V k).nt (V k).T (V k).nc (V k).C = (0, (seeF (V k).nt (V k).T (V k).nc (V k).C).2) := by rw [← hE0]
      rw [hE0']
      clear hE0'
      generalize (seeF (V k).nt (V k).T (V k).nc (V k).C).2 = z2
      unfold seeAgg
      generalize hY : (w2.alloc (Obj.cells #[.slice y0 l0 t0, .slice y1 l1 t1, .slice y2 l2 t2] 107)).alloc (Obj.cells #[.int .i64 0, .int .i64 z2] 39) = G
      have hBG : Below w2.heap.size w2 G := by rw [← hY]; exact below2 _ _ _
      have hbs : G.heap[w2.heap.size]? = some (.cells #[.slice y0 l0 t0, .slice y1 l1 t1, .slice y2 l2 t2] 107 (0, 0)) := by rw [← hY]; exact (Below.heap_alloc _ _ _ (by simp)).trans (heap_alloc_new _ _)
      rw [← e0, ← e1] at hbs
      have hrG := hrs.rebox' hBG (by have := hrs.hbs; have := lt_of_block hrs.box; omega) hbs
      have hDG : Below D.heap.size D G := hw2.trans (hBG.mono hw2.size)
      have hR0 := seeF_right (n := (V k).nt) (T := (V k).T) (m := (V k).nc) (C := (V k).C) hE0
      have hRel := rel_run (C := (V k).C) hR0 (V k).nc
      have hcl := refTypes_any (V k).ta (V k).nt (V k).tcap base w2.heap.size _ rows (V k).T _ G (HOKD.out.types.kept hDG) hrG hR0 hRel.own0 (serv_kind HOKD.out)
      have b0 := keptCell hDG b0
      have HDG := Hid.intro hDG
      have HREL : Hid (Rel (V k).nt (V k).T (seenS (V k)) (runR (V k).nt (initLen (V k).nt (V k).T) (initTxt (V k).T) (V k).C (V k).nc)) := hRel
      clear hBG hbs hrG hDG hrs hR0 hRel hw2 e0 e1 b1 hE0
      generalize runR (V k).nt (initLen (V k).nt (V k).T) (initTxt (V k).T) (V k).C (V k).nc = txt at *
      go_wp2_with fail
      clear hY
      refine hcl.mono ?_
      clear hcl
      rintro e B ⟨⟨a2, k2, a3, k3, Ad, Cp, NV, rfl, -, -, rN, rO, rT, rF⟩, hwB⟩
      have hDB : Below D.heap.size D B := HDG.out.trans (hwB.mono HDG.out.size)
      have hrB : Below wr.heap.size wr B := HBD.out.trans (hDB.mono HBD.out.size)
      have hzG : wr.heap.size ≤ G.heap.size := Nat.le_trans HBD.out.size HDG.out.size
      obtain ⟨Y, hYd⟩ : ∃ Y : Nat → Prop, Y = fun b => ZX b ∨ (wr.heap.size ≤ b ∧ b < B.heap.size) := ⟨_, rfl⟩
      have HPB : Hid (Parts Y B (.slice pa (allP (ntS V) (seenA V) k).length pc) (allP (ntS V) (seenA V) k) rk) := by rw [hYd]; exact HPR.out.kept hrB
      have hzX : X.heap.size ≤ wr.heap.size := HKR.out.size
      have HYB : Hid (∀ b, Y b → b < B.heap.size) := fun b hb => by
        rw [hYd] at hb
        rcases hb with hb | hb
        · have := (HZX.out b).1 hb; have := hrB.size; omega
        · exact hb.2
      have HYZ : Hid (∀ {a b : World}, Keep Y a b → Keep ZX a b) := fun h => h.mono fun b hb => by rw [hYd]; exact .inl hb
      have HPZ : Hid (∀ {a : World} {v : Value} {L' : List PPart} {r : Nat → Nat → Value}, Parts Y a v L' r → Parts ZX a v L' r) := fun h => h.less fun b hb => by rw [hYd]; exact .inl hb
      have HKB : Hid (Keep ZX X B) := HKR.out.trans (Keep.of hrB fun b hb => by have := (HZX.out b).1 hb; omega)
      obtain ⟨_, _, _, hsX⟩ := (HS.out.kept HX.out).2 k hlt
      have hRS : RightS (V k).nt (seenS (V k)) := right_run (seeF_right (HOKj.out k hlt)) (V k).nc
      have HGS := Hid.intro (seen_good hsX.ok (HOKj.out k hlt))
      have HTY : Hid (∀ w', Keep Y B w' → ∀ j, j < (V k).nt → TyAt w' wr.heap.size (V k) a2 a3 j (Ad j) (Cp j) (seenS (V k) j)) := fun w' hk' => by
        refine ty_at hzG ((hDB.block _ (lt_of_block HBX.out)).trans HBX.out) (hsX.ok.types.kept ((HKB.out.trans (HYZ.out hk')).below fun b hb => (HZX.out b).2 hb)) HREL.out HGS.out rT rF rN rO fun b h1 h2 => hk'.block b ?_
        rw [hYd]; exact .inr ⟨h1, h2⟩
      have hn8 : (V k).nt ≤ 8 := hRS.few
      have HNF : Hid (∀ j, j < (V k).nt → (seenS (V k) j).nf ≤ 10) := fun j hj => (hRS.fld j hj).few
      have HFW : Hid (Few (allP (ntS V) (seenA V) k) (8 * k)) := few_all (n := ntS V) (S := seenA V) k (fun q hq => (seeF_right (HOKj.out q (by omega))).few) (fun q hq j hj => ((right_run (seeF_right (HOKj.out q (by omega))) (V q).nc).fld j hj).few)
      have HRI : Hid (Rise (allP (ntS V) (seenA V) k)) := all_rise k
      have HEA : Hid (errA (ntS V) (seenA V) k = errV (k : Int) (allP (ntS V) (seenA V) k) (seenS (V k)) (V k).nt) := rfl
      have HPK : Hid (allP (ntS V) (seenA V) (k + 1) = foldT (k : Int) (allP (ntS V) (seenA V) k) (seenS (V k)) (V k).nt) := rfl
      have hkw := svc_wf k (by omega)
      have HKW := Hid.intro hkw
      have hzB : wr.heap.size ≤ B.heap.size := hrB.size
      clear hDB hrB hzG hYd hsX hRS rN rO rT rF hwB HREL HDG HBD HBX HPR b0 hkw
      generalize seenS (V k) = S at *
      generalize allP (ntS V) (seenA V) k = L0 at *
      generalize wr.heap.size = bs at *
      go_wp2_with fail
      go_loopw [5, 47] (fun v j wr => ∃ m : Nat, m ≤ (V k).nt ∧ j = .int .i64 m ∧ Hid (∀ q, q < m → errT (foldT (k : Int) L0 S q) (S q) = 0) ∧ Keep Y B wr ∧ ∃ rm, Parts Y wr v (foldT (k : Int) L0 S m) rm) (fun _ j _ => (V k).nt - (intOf j).toNat)
      case atStart => exact ⟨0, Nat.zero_le _, rfl, (fun j hj => absurd hj (Nat.not_lt_zero _)), Keep.refl _ _, rk, HPB.out⟩
      case round =>
        clear HPB
        obtain ⟨m, hm, rfl, hcl, hKm, rm, hPm⟩ := hrel
        have HCM := Hid.intro hcl
        clear hcl
        obtain ⟨qa, qc, hqv, -⟩ := hPm.slice
        subst hqv
        by_cases hml : m < (V k).nt
        · have hfew := HFW.out.fold (svc := (k : Int)) (S := S) m (fun q hq => HNF.out q (by omega))
          have hml' : (m : Int) < ((V k).nt : Int) := by omega
          have HYR : Hid (∀ b, Y b → b < wr.heap.size) := fun b hb => Nat.lt_of_lt_of_le (HYB.out b hb) hKm.size
          have HTYm : Hid (∀ w', Keep Y wr w' → TyAt w' bs (V k) a2 a3 m (Ad m) (Cp m) (S m)) := fun w' h => HTY.out w' (hKm.trans h) m hml
          have HKX : Hid (∀ U, Keep Y wr U → Keep ZX X U) := fun U h => HKB.out.trans (HYZ.out (hKm.trans h))
          have HRBm : Hid (∀ U, Keep Y wr U → U.heap[w.heap.size]? = some (.cells #[.int .i64 0, .int .i64 0] 39 (0, 0))) := fun U h => ((HKX.out U h).block _ ((HZX.out _).2 (lt_of_block HBFX.out))).trans HBFX.out
          have HPM := Hid.intro hPm
          have HKM := Hid.intro hKm
          have HFN : Hid (foldT (k : Int) L0 S (m + 1) = stepT (k : Int) (foldT (k : Int) L0 S m) (S m)) := rfl
          have HFE := Hid.intro hfew
          have hnf10 := HNF.out m hml
          clear hPm hKm hfew
          generalize hLm : foldT (k : Int) L0 S m = Lm at *
          have HLM := Hid.intro hLm
          clear hLm
          go_upto_block 3 with fail
          refine type_block HTYm (Hid.intro (HGS.out m hml)) HKW HYR hml hnf10 HFE (by omega) HRBm HPM _ _ _ _ _ _ _ _ _ _ _ _ _ _ _ _ _ _ _ _ _ _ _ _ _ _ _ _ _ _ _ _ _ _ _ _ _ _ _ _ _ _ _ _ _ _ _ _ _ _ _ _ _ _ _ _ _ _ _ _ _ _ _ _ _ _ _ _ _ _ _ _ _ _ _ _ _ _ _ _ _ _ _ _ _ _ _ _ _ _ _ _ _ _ _ _ _ _ _ _ _ _ _ _ _ _ _ _ _ _ _ _ _ _ _ _ _ _ _ _ _ _ _ _ _ _ _ _ _ _ _ _ _ _ _ _ _ _ _ _ _ _ _ _ _ _ _ _ _ _ _ _ _ _ _ _ _ _ _ _ _ _ _ _ _ _ _ _ _ _ _ (Hid.intro ?_) (Hid.intro ?_)
          · intro u2 u12 u13 u14 u15 u16 u17 u49 u50 u51 u52 u53 u54 u55 u56 u57 u58 u59 u60 u61 u62 u63 u64 u65 u66 u67 u68 u69 u70 u71 u72 u73 u74 u75 u76 u77 u78 u79 u80 u81 u82 u83 u84 u85 u86 u87 u88 u89 u90 u91 u92 u93 u94 u95 u96 u97 u98 u99 u100 u101 u102 u103 u104 u105 u106 u107 u108 u109 u110 u111 u112 u113 u114 u115 u116 u117 u118 u119 u120 u121 u122 u123 u124 u125 u126 u127 u128 u129 u130 u131 u132 u133 u134 u135 u136 u137 u138 u139 u140 u141 u142 u143 u144 u145 u146 u147 u148 u149 u150 u151 u152 u153 u154 u155 u156 u157 u158 u159 u160 u161 u162 u163 u164 u165 u166 u167 u168 u169 u170 u171 u172 u173 va vc rj w' he hk hp
            have HCM2 : Hid (∀ j, j < m + 1 → errT (foldT (k : Int) L0 S j) (S j) = 0) := fun j hj => by
              rcases Nat.lt_succ_iff_lt_or_eq.1 hj with h | h
              · exact HCM.out j h
              · rw [h, HLM.out]; exact he
            have HKF : Hid (Keep Y B w') := HKM.out.trans hk
            have HPF : Hid (∃ rm', Parts Y w' (.slice va (stepT (k : Int) Lm (S m)).length vc) (foldT (k : Int) L0 S (m + 1)) rm') := by
              rw [HFN.out]; exact ⟨rj, hp⟩
            clear he hk hp
            go_wp2_with fail
            go_roundw
            case rel => exact ⟨m + 1, by omega, by go_num, HCM2, HKF.out, HPF.out⟩
            case measure => simp [intOf]; omega
          · intro a' U he hk hd h2 h3
            have HER : Hid (allF n V = (6, (k : Int))) := by
              have h7 : errT (foldT (k : Int) L0 S m) (S m) = 6 := by rw [HLM.out]; exact he
              have h8 : errA (ntS V) (seenA V) k = 6 := by rw [HEA.out, errV_hit hml (by rw [h7]; decide) HCM.out, h7]
              rw [HE.out, fault_hit hlt (by rw [h8]; decide) HCL.out, h8]; rfl
            have hkx := HKX.out U hk
            have hbox := HRBm.out U hk
            have h1 : Below w.heap.size w U := HX.out.trans ((hkx.below fun b hb => (HZX.out b).2 hb).mono HX.out.size)
            have hKZ : Below w.heap.size w ((U.setCell ⟨w.heap.size, 0, none⟩ (.int .i64 6)).setCell ⟨w.heap.size, 1, none⟩ (.int .i64 (k : Int))) := (h1.setCell (Nat.le_refl _) _).setCell (Nat.le_refl _) _
            exact err_ends HER.out hbox hd h2 h3 hKZ
        · have hmn : m = (V k).nt := by omega
          subst hmn
          have HE0 : Hid (errA (ntS V) (seenA V) k = 0) := by rw [HEA.out]; exact errV_none HCM.out
          have HCL2 : Hid (∀ j, j < k + 1 → errA (ntS V) (seenA V) j = 0) := fun j hj => by
            rcases Nat.lt_succ_iff_lt_or_eq.1 hj with h | h
            · exact HCL.out j h
            · rw [h]; exact HE0.out
          have HKF : Hid (Keep ZX X wr) := HKB.out.trans (HYZ.out hKm)
          have HPF : Hid (∃ rm', Parts ZX wr (.slice qa (foldT (k : Int) L0 S (V k).nt).length qc) (allP (ntS V) (seenA V) (k + 1)) rm') := by
            rw [HPK.out]; exact ⟨rm, HPZ.out hPm⟩
          clear hKm hPm
          go_wp2_with fail
          go_roundw
          case rel => exact ⟨k + 1, by omega, by go_num, HCL2, HKF.out, HPF.out⟩
          case measure => simp [intOf]; omega
    · have hkn : k = n := by omega
      subst hkn
      have HER : Hid (allF k V = (0, 0)) := by rw [HE.out]; exact fault_none HCL.out
      have HBFU : Hid (wr.heap[w.heap.size]? = some (.cells #[.int .i64 0, .int .i64 0] 39 (0, 0))) := (hKr.block _ ((HZX.out _).2 (lt_of_block HBFX.out))).trans HBFX.out
      obtain ⟨x0, x1, z0, z1⟩ := box_cells HBFU.out
      have HKZ : Hid (Below w.heap.size w ((wr.setCell ⟨w.heap.size, 0, none⟩ (.int .i64 0)).setCell ⟨w.heap.size, 1, none⟩ (.int .i64 0))) := (hwr.setCell (Nat.le_refl _) _).setCell (Nat.le_refl _) _
      have HPZ : Hid (Parts (fun b => b < w.heap.size) ((wr.setCell ⟨w.heap.size, 0, none⟩ (.int .i64 0)).setCell ⟨w.heap.size, 1, none⟩ (.int .i64 0)) (.slice pa (allP (ntS V) (seenA V) k).length pc) (allP (ntS V) (seenA V) k) rk) := by
        refine (hPr.other (B := w.heap.size) (fun j _ hj => ?_) (fun c t z h => ?_)).less fun b hb => (HZX.out b).2 (Nat.lt_of_lt_of_le hb HX.out.size)
        · rw [Below.heap_setCell _ _ _ _ hj, Below.heap_setCell _ _ _ _ hj]
        · rw [HBFU.out] at h
          cases h
          exact ⟨by decide, by decide, by decide⟩
      clear hKr hPr hXr hwr
      go_wp2_with fail
      exact bodyPost_ret (v := .tuple #[.slice pa (allP (ntS V) (seenA V) k).length pc, .agg #[.int .i64 0, .int .i64 0]]) (by simp [results, Tryz.results17, go_sem, x0, x1]) rfl ⟨⟨pa, _, pc, by rw [HER.out]; rfl, fun h => absurd (by rw [HER.out]) h, fun _ => ⟨rk, HPZ.out⟩⟩, HKZ.out⟩
end Go.Proofs.YtjjggefmmeminabGreat
