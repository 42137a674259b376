import Derived.Test.YtjjggefmmeminabJGe
/-
  Picks from some place on; picks of the call's own; what is got, behind one another, and by another name.
-/
namespace Go.Proofs.Ytjjggefmmeminab
open Go.RowKit Go.Sort Go.PlainAid

/-- 'append(dst, src...)' where a guard is met. -/
theorem wpList_append_met {P : Program} (w : World) {ops : Array Oper} {rest : List Oper} {o : Oper} {a : Act} {Q : Exit → Act → World → Prop} (hw : Region.wanted o (yielded ops a.tmps) = true) (s x : Operand) (t : TypeId)
    (ho : o.op = .call { callee := .builtin .append, args := #[s, x], argTypes := #[t, t] })
    (base : Nat) (e : TypeId) (i : TypeInfo) (z : Value) (size bytes : Nat) (ht : P.underlying t = some (.slice e)) (hi : P.info? e = some i) (hz : i.zero = some z)
    (hsize : i.size = size) (hby : i.bytes = bytes) (hzs : z.cells.size = size) (hsz : 0 < size)
    (v : Value) (n : Nat) (xs : List Value) (hs : a.eval s = v) (hown : w.ownsRow base e size v n xs)
    (src : Option Addr) (m c : Nat) (news : List Value) (hx : a.eval x = .slice src m c) (hl : news.length = m * size) (hnews : ∀ ad, src = some ad → ∀ j u, news[j]? = some u → w.cell? (ad.add j) = some u) (hnil : src = none → m = 0) (h1 : ∀ u ∈ news, u.oneCell' = true)
    (h63 : n + m ≤ maxLen) (hbytes : (n + m) * bytes ≤ 140737488355328) (hbase : base ≤ w.heap.size)
    (h : ∀ v' w', w'.ownsRow base e size v' (n + m) (xs ++ news) → w.grownBy w' v.ownBlock → (v'.ownBlock = v.ownBlock ∨ v'.ownBlock = some w.heap.size) → wpList P ops Q rest (a.put o.dst v') w') :
    wpList P ops Q (o :: rest) a w := by
  refine wpList_step fun K hK => ?_
  rw [if_pos hw]
  obtain ⟨v', w', hr, h2, h3, h5⟩ := run_append_any (P := P) w base t o.type e i z size bytes ht hi hz hsize hby hzs hsz v n xs hown src m c news hl hnews hnil h1 h63 hbytes hbase
  unfold Oper.wp execOp
  simp only [ho, resolve, invoke, builtin, Sem.run_bind, Sem.run_pure, Result.andThen_ok, List.map_toArray, List.map_cons, List.map_nil, hs, hx, hr]
  exact hK _ _ (h v' w' h2 h3 h5)
theorem picks_drop {w : World} {d b o : Nat} {L : List (Pick d)} (h : PicksAt w d (some ⟨b, o, none⟩) L) (k : Nat) : PicksAt w d (some ⟨b, o + k * 3, none⟩) (L.drop k) := by
  cases d with
  | zero => trivial
  | succ d =>
    refine ⟨Nat.le_trans (by rw [List.length_drop]; omega) h.1, fun i hi => ?_⟩
    have hi' : k + i < L.length := by rw [List.length_drop] at hi; omega
    obtain ⟨b', o', A, C, e, c0, c1, c2, r⟩ := h.2 (k + i) hi'
    cases e
    have ep : pickN (L.drop k) i = pickN L (k + i) := by rw [pickN_get hi, pickN_get hi', List.getElem_drop]
    rw [ep]
    refine ⟨b, o + k * 3, A, C, rfl, ?_, ?_, ?_, r⟩
    · rw [show o + k * 3 + i * 3 = o + (k + i) * 3 by omega]; exact c0
    · rw [show o + k * 3 + i * 3 + 1 = o + (k + i) * 3 + 1 by omega]; exact c1
    · rw [show o + k * 3 + i * 3 + 2 = o + (k + i) * 3 + 2 by omega]; exact c2

/-! Picks of the call's own -/
def pkCell {d : Nat} (L : List (Pick (d + 1))) (av : Nat → Value) (j : Nat) : Value := if j % 3 = 0 then .string (nick (pickN L (j / 3))) else if j % 3 = 1 then .string (pfield (pickN L (j / 3))) else av (j / 3)
theorem pkCell0 {d : Nat} (L : List (Pick (d + 1))) (av : Nat → Value) (i : Nat) : pkCell L av (i * 3) = .string (nick (pickN L i)) := by unfold pkCell; rw [if_pos (by omega), show i * 3 / 3 = i by omega]
theorem pkCell1 {d : Nat} (L : List (Pick (d + 1))) (av : Nat → Value) (i : Nat) : pkCell L av (i * 3 + 1) = .string (pfield (pickN L i)) := by unfold pkCell; rw [if_neg (by omega), if_pos (by omega), show (i * 3 + 1) / 3 = i by omega]
theorem pkCell2 {d : Nat} (L : List (Pick (d + 1))) (av : Nat → Value) (i : Nat) : pkCell L av (i * 3 + 2) = av i := by unfold pkCell; rw [if_neg (by omega), if_neg (by omega), show (i * 3 + 2) / 3 = i by omega]
/-- The lists below picks that came in, one a pick. -/
structure PkSub {d : Nat} (w : World) (L : List (Pick (d + 1))) (av : Nat → Value) : Prop where
  sub : ∀ i, i < L.length → ∃ A C, av i = .slice A (subs (pickN L i)).length C ∧ (subs (pickN L i)).length ≤ C ∧ Small (nick (pickN L i)) ∧ Small (pfield (pickN L i)) ∧ PicksAt w d A (subs (pickN L i))
theorem picks_cells {w : World} {d : Nat} {a : Option Addr} {L : List (Pick (d + 1))} (h : PicksAt w (d + 1) a L) : ∃ av, PkSub w L av ∧ (∀ u ∈ (List.range (L.length * 3)).map (pkCell L av), u.oneCell' = true) ∧ (a = none → L.length = 0) ∧ ∀ ad, a = some ad → ∀ j u, ((List.range (L.length * 3)).map (pkCell L av))[j]? = some u → w.cell? (ad.add j) = some u := by
  have hex : ∀ i, ∃ v : Value, i < L.length → ∃ A C, v = .slice A (subs (pickN L i)).length C ∧ (∃ b o, a = some ⟨b, o, none⟩ ∧ w.cell? ⟨b, o + i * 3 + 2, none⟩ = some v) ∧ (subs (pickN L i)).length ≤ C ∧ Small (nick (pickN L i)) ∧ Small (pfield (pickN L i)) ∧ PicksAt w d A (subs (pickN L i)) := fun i => by
    by_cases hi : i < L.length
    · obtain ⟨b, o, A, C, e, c0, c1, c2, hc, s0, s1, hs⟩ := h.2 i hi
      exact ⟨_, fun _ => ⟨A, C, rfl, ⟨b, o, e, c2⟩, hc, s0, s1, hs⟩⟩
    · exact ⟨undef, fun h' => absurd h' hi⟩
  obtain ⟨av, hav⟩ := Classical.axiomOfChoice hex
  refine ⟨av, ⟨fun i hi => let ⟨A, C, e, _, r⟩ := hav i hi; ⟨A, C, e, r⟩⟩, fun u hu => ?_, fun ha => ?_, fun ad ha j u hu => ?_⟩
  · obtain ⟨j, hj, rfl⟩ := List.mem_map.1 hu
    have hj' : j < L.length * 3 := by simpa using hj
    unfold pkCell
    split
    · rfl
    · split
      · rfl
      · obtain ⟨A, C, e, -⟩ := hav (j / 3) (by omega)
        rw [e]; rfl
  · rcases Nat.eq_zero_or_pos L.length with h0 | h0
    · exact h0
    · obtain ⟨b, o, A, C, e, -⟩ := h.2 0 h0
      rw [ha] at e; cases e
  · have hj : j < L.length * 3 := by
      have := (List.getElem?_eq_some_iff.1 hu).1
      simpa using this
    rw [List.getElem?_map, List.getElem?_range hj] at hu
    obtain rfl := Option.some.inj hu
    obtain ⟨b, o, A, C, e, c0, c1, c2, -⟩ := h.2 (j / 3) (by omega)
    rw [ha] at e
    cases e
    rw [WideShapes.add_plain]
    have hm : j = j / 3 * 3 ∨ j = j / 3 * 3 + 1 ∨ j = j / 3 * 3 + 2 := by omega
    unfold pkCell
    rcases hm with hm | hm | hm
    · rw [if_pos (by omega), show o + j = o + j / 3 * 3 by omega]; exact c0
    · rw [if_neg (by omega), if_pos (by omega), show o + j = o + j / 3 * 3 + 1 by omega]; exact c1
    · rw [if_neg (by omega), if_neg (by omega), show o + j = o + j / 3 * 3 + 2 by omega]
      obtain ⟨A', C', -, ⟨b', o', e', c'⟩, -⟩ := hav (j / 3) (by omega)
      rw [ha] at e'
      cases e'
      exact c'
theorem pick_set {d : Nat} {L : List (Pick (d + 1))} {k i : Nat} (hk : k < L.length) (p : Pick (d + 1)) : pickN (L.set k p) i = if i = k then p else pickN L i := by
  unfold pickN
  rw [List.getD_eq_getElem?_getD, List.getD_eq_getElem?_getD, List.getElem?_set]
  by_cases h : k = i
  · subst h; simp [hk]
  · simp [h, Ne.symm h]
/-- A row of picks of the call's own, one of them called otherwise. -/
theorem picks_own {w : World} {d B g cap k : Nat} {L : List (Pick (d + 1))} {av : Nat → Value} {name : ByteArray} (hr : Row w B 63 3 (.slice (some ⟨g, 0, none⟩) L.length cap) L.length (pkCell L av)) (hs : PkSub w L av) (hm : L.length ≤ maxLen) (hk : k < L.length) (hn : Small name)
    (hsub : ∀ i, i < L.length → ∀ A, PicksAt w d A (subs (pickN L i)) → (∃ C, av i = .slice A (subs (pickN L i)).length C) → PicksAt (w.setCell ⟨g, k * 3, none⟩ (.string name)) d A (subs (pickN L i))) :
    PicksAt (w.setCell ⟨g, k * 3, none⟩ (.string name)) (d + 1) (some ⟨g, 0, none⟩) (L.set k (asP (pickN L k) name)) := by
  have hl : (L.set k (asP (pickN L k) name)).length = L.length := List.length_set ..
  have hr' := hr.set (k * 3) (.string name)
  refine ⟨by rw [hl]; exact hm, fun i hi => ?_⟩
  rw [hl] at hi
  rw [pick_set hk]
  obtain ⟨A, C, e, hc, s0, s1, hp⟩ := hs.sub i hi
  have c0 : _ = some (if i * 3 = k * 3 then .string name else pkCell L av (i * 3)) := hr'.cell (j := i * 3) (by omega)
  have c1 : _ = some (if i * 3 + 1 = k * 3 then .string name else pkCell L av (i * 3 + 1)) := hr'.cell (j := i * 3 + 1) (by omega)
  have c2 : _ = some (if i * 3 + 2 = k * 3 then .string name else pkCell L av (i * 3 + 2)) := hr'.cell (j := i * 3 + 2) (by omega)
  rw [if_neg (by omega), pkCell1] at c1
  rw [if_neg (by omega), pkCell2, e] at c2
  by_cases hik : i = k
  · subst hik
    rw [if_pos rfl] at c0 ⊢
    exact ⟨g, 0, A, C, rfl, by rw [Nat.zero_add]; exact c0, by rw [Nat.zero_add]; exact c1, by rw [Nat.zero_add]; exact c2, hc, hn, s1, hsub i hi A hp ⟨C, e⟩⟩
  · rw [if_neg (by omega), pkCell0] at c0
    rw [if_neg hik]
    exact ⟨g, 0, A, C, rfl, by rw [Nat.zero_add]; exact c0, by rw [Nat.zero_add]; exact c1, by rw [Nat.zero_add]; exact c2, hc, s0, s1, hsub i hi A hp ⟨C, e⟩⟩

/-! What is got, by another name -/
theorem got_set {d : Nat} {L : List (Got (d + 1))} {k i : Nat} (hk : k < L.length) (p : Got (d + 1)) : gotN (L.set k p) i = if i = k then p else gotN L i := by
  unfold gotN
  rw [List.getD_eq_getElem?_getD, List.getD_eq_getElem?_getD, List.getElem?_set]
  by_cases h : k = i
  · subst h; simp [hk]
  · simp [h, Ne.symm h]
theorem GRow.rename {N0 d g cap k : Nat} {w : World} {L : List (Got (d + 1))} {av sv : Nat → Value} (h : GRow N0 w (.slice (some ⟨g, 0, none⟩) L.length cap) L av sv) (hk : k < L.length) (nm : ByteArray) : GRow N0 (w.setCell ⟨g, k * 6, none⟩ (.string nm)) (.slice (some ⟨g, 0, none⟩) (L.set k (reName (gotN L k) nm)).length cap) (L.set k (reName (gotN L k) nm)) av sv := by
  have hl : (L.set k (reName (gotN L k) nm)).length = L.length := List.length_set ..
  refine ⟨?_, fun i hi => ?_⟩
  · rw [hl]
    refine (h.row.set (k * 6) (.string nm)).congr fun j hj => ?_
    unfold gotCell
    rw [got_set hk]
    by_cases e : j = k * 6
    · rw [if_pos e, if_pos (by omega), if_pos (by omega)]; rfl
    · rw [if_neg e]
      by_cases e2 : j / 6 = k
      · rw [if_pos e2, e2]
        by_cases e3 : j % 6 = 0
        · omega
        · rw [if_neg e3, if_neg e3]; rfl
      · rw [if_neg e2]
  · rw [hl] at hi
    rw [got_set hk]
    obtain ⟨A, C, A2, C2, e1, e2, hf⟩ := h.sub i hi
    have hf' : GotV (fun q => q < N0 ∨ (Value.slice (some ⟨g, 0, none⟩) L.length cap).ownBlock = some q) (w.setCell ⟨g, k * 6, none⟩ (.string nm)) (gotN L i) A C A2 C2 := hf.step (by simp) (fun q _ hq => Below.heap_setCell _ _ _ _ (fun e => hq (.inr (by rw [e]; rfl)))) (fun _ _ hq => hq)
    have hf'' : GotV (fun q => q < N0 ∨ (Value.slice (some ⟨g, 0, none⟩) (L.set k (reName (gotN L k) nm)).length cap).ownBlock = some q) (w.setCell ⟨g, k * 6, none⟩ (.string nm)) (gotN L i) A C A2 C2 := hf'.step (Nat.le_refl _) (fun _ _ _ => rfl) (fun _ _ hq => hq)
    by_cases hik : i = k
    · subst hik
      rw [if_pos rfl]
      exact ⟨A, C, A2, C2, e1, e2, hf''.c, hf''.c2, hf''.sub, hf''.subs⟩
    · rw [if_neg hik]
      exact ⟨A, C, A2, C2, e1, e2, hf''⟩

/-! What is got, one part behind the other -/
theorem GRow.cellOne {N0 d : Nat} {w : World} {v : Value} {L : List (Got (d + 1))} {av sv : Nat → Value} (h : GRow N0 w v L av sv) : ∀ u ∈ (List.range (L.length * 6)).map (gotCell L av sv), u.oneCell' = true := by
  intro u hu
  obtain ⟨j, hj, rfl⟩ := List.mem_map.1 hu
  have hj' : j < L.length * 6 := by simpa using hj
  obtain ⟨A, C, A2, C2, e1, e2, -⟩ := h.sub (j / 6) (by omega)
  unfold gotCell
  repeat' split
  all_goals first | rfl | (rw [e1]; rfl) | (rw [e2]; rfl)
theorem gotN_app {d : Nat} (L M : List (Got (d + 1))) (i : Nat) : gotN (L ++ M) i = if i < L.length then gotN L i else gotN M (i - L.length) := by
  unfold gotN
  rw [List.getD_eq_getElem?_getD, List.getD_eq_getElem?_getD, List.getD_eq_getElem?_getD, List.getElem?_append]
  split <;> rfl
theorem gotCells_join {d : Nat} (L M : List (Got (d + 1))) (av sv av' sv' : Nat → Value) : (List.range ((L.length + M.length) * 6)).map (gotCell (L ++ M) (fun i => if i < L.length then av i else av' (i - L.length)) (fun i => if i < L.length then sv i else sv' (i - L.length))) = (List.range (L.length * 6)).map (gotCell L av sv) ++ (List.range (M.length * 6)).map (gotCell M av' sv') := by
  rw [Nat.add_mul, List.range_add, List.map_append, List.map_map]
  congr 1
  · refine List.map_congr_left fun j hj => ?_
    have hj' : j < L.length * 6 := by simpa using hj
    have e : gotN (L ++ M) (j / 6) = gotN L (j / 6) := by rw [gotN_app, if_pos (by omega)]
    unfold gotCell
    rw [e]
    simp only [show j / 6 < L.length by omega, if_true]
  · refine List.map_congr_left fun j hj => ?_
    have hj' : j < M.length * 6 := by simpa using hj
    show gotCell (L ++ M) _ _ (L.length * 6 + j) = _
    have e : gotN (L ++ M) (L.length + j / 6) = gotN M (j / 6) := by rw [gotN_app, if_neg (by omega), show L.length + j / 6 - L.length = j / 6 by omega]
    unfold gotCell
    rw [show (L.length * 6 + j) / 6 = L.length + j / 6 by omega, show (L.length * 6 + j) % 6 = j % 6 by omega, e]
    simp only [show ¬ L.length + j / 6 < L.length by omega, if_false, show L.length + j / 6 - L.length = j / 6 by omega]
theorem GRow.join {N0 N1 d : Nat} {w w' : World} {v u v' : Value} {L M : List (Got (d + 1))} {av sv av' sv' : Nat → Value} (hL : GRow N0 w v L av sv) (hM : GRow N1 w u M av' sv') (hN : N0 ≤ N1) (hv : ∀ k, v.ownBlock = some k → k < N1)
    (hown : w'.ownsRow N0 66 6 v' (L.length + M.length) ((List.range (L.length * 6)).map (gotCell L av sv) ++ (List.range (M.length * 6)).map (gotCell M av' sv'))) (hg : w.grownBy w' v.ownBlock) (hv' : v'.ownBlock = v.ownBlock ∨ v'.ownBlock = some w.heap.size) :
    GRow N0 w' v' (L ++ M) (fun i => if i < L.length then av i else av' (i - L.length)) (fun i => if i < L.length then sv i else sv' (i - L.length)) := by
  have hl : (L ++ M).length = L.length + M.length := by simp
  refine ⟨?_, fun i hi => ?_⟩
  · unfold Row; rw [hl, gotCells_join]; exact hown
  · rw [hl] at hi
    rw [gotN_app]
    by_cases h : i < L.length
    · rw [if_pos h, if_pos h, if_pos h]
      obtain ⟨A, C, A2, C2, e1, e2, hf⟩ := hL.sub i h
      refine ⟨A, C, A2, C2, e1, e2, hf.step hg.size (fun k hk hx => hg.block k hk (fun e => hx (.inr e.symm))) (fun k hk hx => ?_)⟩
      rcases hx with hx | hx
      · exact .inl hx
      · rcases hv' with e | e
        · exact .inr (by rw [← e]; exact hx)
        · rw [e] at hx; cases hx; omega
    · rw [if_neg h, if_neg h, if_neg h]
      obtain ⟨A, C, A2, C2, e1, e2, hf⟩ := hM.sub (i - L.length) (by omega)
      refine ⟨A, C, A2, C2, e1, e2, hf.step hg.size (fun k hk hx => hg.block k hk (fun e => hx (.inl (hv k e.symm)))) (fun k hk hx => ?_)⟩
      rcases hx with hx | hx
      · exact .inl (by omega)
      · rcases hv' with e | e
        · rw [e] at hx; exact .inl (hv k hx)
        · rw [e] at hx; cases hx; omega
theorem GRow.news {N0 d : Nat} {w : World} {a : Option Addr} {n cap : Nat} {L : List (Got (d + 1))} {av sv : Nat → Value} (h : GRow N0 w (.slice a n cap) L av sv) : (a = none → n = 0) ∧ n = L.length ∧ ∀ ad, a = some ad → ∀ j u, ((List.range (L.length * 6)).map (gotCell L av sv))[j]? = some u → w.cell? (ad.add j) = some u := by
  rcases h.row.shape with ⟨e, h0⟩ | ⟨g, cap', e, -, -, -⟩
  · cases e
    exact ⟨fun _ => rfl, h0.symm, fun ad ha => by cases ha⟩
  · cases e
    refine ⟨fun ha => (by cases ha), rfl, fun ad ha j u hu => ?_⟩
    cases ha
    have hj : j < L.length * 6 := by
      have := (List.getElem?_eq_some_iff.1 hu).1
      simpa using this
    rw [List.getElem?_map, List.getElem?_range hj] at hu
    obtain rfl := Option.some.inj hu
    rw [WideShapes.add_plain, Nat.zero_add]
    exact h.row.cell hj
end Go.Proofs.Ytjjggefmmeminab
