import Derived.Test.YtjjggefmmeminacGreatTpManyM
/-
  People of whom some have no name, as services that lie in memory.
-/
namespace Go.Proofs.YtjjggefmmeminacGreat
open Go.RowKit Go.Sort Go.PlainAid

/-- The cells of the things of those whose number X tells. -/
def hcell (X p : Nat → Nat) (j : Nat) : Value := if j % 3 = 0 then .string ⟨#[117, 115, 101, 114]⟩ else if j % 3 = 1 then .string (kP (X (j / 3))) else .slice (some ⟨p (X (j / 3)), 0, none⟩) 1 1
theorem hcell0 (X p : Nat → Nat) (i : Nat) : hcell X p (i * 3) = .string ⟨#[117, 115, 101, 114]⟩ := by unfold hcell; rw [if_pos (by omega)]
theorem hcell1 (X p : Nat → Nat) (i : Nat) : hcell X p (i * 3 + 1) = .string (kP (X i)) := by unfold hcell; rw [if_neg (by omega), if_pos (by omega), show (i * 3 + 1) / 3 = i by omega]
theorem hcell2 (X p : Nat → Nat) (i : Nat) : hcell X p (i * 3 + 2) = .slice (some ⟨p (X i), 0, none⟩) 1 1 := by unfold hcell; rw [if_neg (by omega), if_neg (by omega), show (i * 3 + 2) / 3 = i by omega]
theorem some_servs {w : World} {N n ta fa tb fb tc lb : Nat} {p q X : Nat → Nat} {nA : Nat} {ka : Nat → Option Addr} {kc nk : Nat → Nat} {K : Nat → Nat → ByteArray} {a1 a4 : Option Addr} {c1 c4 : Nat} (hn : n ≤ 40) (hT : PpT ta fa tb fb tc w) (hA : ∀ i, i < n → w.heap[p i]? = some (.cells #[.string ⟨#[110, 97, 109, 101]⟩, .string (kN i), .slice none 0 0] 59 (0, 0)))
    (hB : ∀ i, i < n → w.heap[q i]? = some (.cells #[.string ⟨#[117, 110, 100, 101, 114]⟩, .string ⟨#[]⟩, .slice (ka i) (nk i) (kc i)] 59 (0, 0))) (hK : ∀ i, i < n → nk i ≤ kc i ∧ KeysAt w (ka i) (nk i) (K i))
    (hX : ∀ i, i < nA → X i < n) (hnA : nA ≤ 40) (r1 : Row w N 62 3 (.slice a1 nA c1) nA (hcell X p)) (r2 : Row w N 62 3 (.slice a4 n c4) n (tcell ⟨#[109, 97, 110]⟩ q))
    (hl : w.heap[lb]? = some (.cells #[.slice (some ⟨ta, 0, none⟩) 1 1, .slice none 0 0, .slice a1 nA c1, .slice (some ⟨tb, 0, none⟩) 1 1, .slice (some ⟨tc, 0, none⟩) 1 1, .slice a4 n c4] 40 (0, 0))) :
    ServsAt w (some ⟨lb, 0, none⟩) 2 (pplV (lieG fa fb p q ka kc) (lieY ta tb tc a1 c1 a4 c4) nA X n nk K) := by
  have hcap : nA ≤ c1 ∧ n ≤ c4 := by
    obtain ⟨a, c, e, h⟩ := r1.slice
    obtain ⟨a', c', e', h'⟩ := r2.slice
    cases e; cases e'
    exact ⟨h, h'⟩
  refine ⟨by decide, fun i hi => ⟨lb, 0, rfl, ?_⟩⟩
  have hi' : i = 0 ∨ i = 1 := by omega
  rcases hi' with rfl | rfl
  · refine ⟨by simp [World.cell?, hl, pplV, lieY], by simp [World.cell?, hl, pplV, lieY], by simp [World.cell?, hl, pplV, lieY], ⟨?_, ?_, ?_, Nat.le_refl _, hcap.1⟩⟩
    · exact types_one (t := pyA (lieG fa fb p q ka kc)) hT.ta (Nat.le_refl _) (small_lit 4 rfl (by decide)) (fields_one (f := ⟨bName, 1, ⟨#[]⟩⟩) hT.fa ⟨small_lit 4 rfl (by decide), small_lit 0 rfl (by decide), by decide⟩)
    · exact ⟨Nat.zero_le _, fun _ hi => absurd hi (Nat.not_lt_zero _)⟩
    · refine ⟨by show nA ≤ maxLen; unfold maxLen; omega, fun i hi => ?_⟩
      have hi : i < nA := hi
      have hxi := hX i hi
      rcases r1.shape with ⟨-, h0⟩ | ⟨g, cap, e, -, -, -⟩
      · omega
      cases e
      refine ⟨g, 0, rfl, ?_⟩
      have k0 := r1.cell (j := i * 3) (by omega)
      have k1 := r1.cell (j := i * 3 + 1) (by omega)
      have k2 := r1.cell (j := i * 3 + 2) (by omega)
      rw [hcell0] at k0
      rw [hcell1] at k1
      rw [hcell2] at k2
      show ThingAt w g (0 + i * 3) (ptA (lieG fa fb p q ka kc) (X i))
      rw [Nat.zero_add]
      refine ⟨k0, k1, ?_, ?_, small_lit 4 rfl (by decide), small_lit 3 rfl (by decide), ?_⟩
      · show w.cell? _ = some (.slice ((lieG fa fb p q ka kc).a (6 * X i + 2)) 1 ((lieG fa fb p q ka kc).c (6 * X i + 2)))
        rw [(lg2 (X i)).1, (lg2 (X i)).2]; exact k2
      · show 1 ≤ (lieG fa fb p q ka kc).c (6 * X i + 2)
        rw [(lg2 (X i)).2]; exact Nat.le_refl _
      · show ValsAt w ((lieG fa fb p q ka kc).a (6 * X i + 2)) 1 _
        rw [(lg2 (X i)).1]
        refine vals_one (v := pvA (lieG fa fb p q ka kc) (X i)) ?_ (Nat.zero_le _) (small_lit 4 rfl (by decide)) (small_lit 4 rfl (by decide)) ⟨Nat.zero_le _, fun _ hi => absurd hi (Nat.not_lt_zero _)⟩
        show w.heap[p (X i)]? = some (.cells #[.string bName, .string (nameP (X i)), .slice ((lieG fa fb p q ka kc).a (6 * X i)) 0 ((lieG fa fb p q ka kc).c (6 * X i))] 59 (0, 0))
        rw [(lg0 (X i)).1, (lg0 (X i)).2]; exact hA (X i) hxi
  · refine ⟨by simp [World.cell?, hl, pplV, lieY], by simp [World.cell?, hl, pplV, lieY], by simp [World.cell?, hl, pplV, lieY], ⟨?_, ?_, ?_, Nat.le_refl _, hcap.2⟩⟩
    · exact types_one (t := pyB (lieG fa fb p q ka kc)) hT.tb (Nat.le_refl _) (small_lit 3 rfl (by decide)) (fields_one (f := ⟨bUnder, 3, bMan⟩) hT.fb ⟨small_lit 5 rfl (by decide), small_lit 3 rfl (by decide), by decide⟩)
    · refine ⟨by show 1 ≤ maxLen; decide, fun i hi => ⟨tc, 0, rfl, ?_⟩⟩
      have hi : i < 1 := hi
      obtain rfl : i = 0 := by omega
      exact ⟨by simp [World.cell?, hT.tc, pplV], by simp [World.cell?, hT.tc, pplV, bMan], by simp [World.cell?, hT.tc, pplV], by simp [World.cell?, hT.tc, pplV, bUser], small_lit 3 rfl (by decide), small_lit 0 rfl (by decide), small_lit 4 rfl (by decide)⟩
    · refine ⟨by show n ≤ maxLen; unfold maxLen; omega, fun i hi => ?_⟩
      have hi : i < n := hi
      rcases r2.shape with ⟨-, h0⟩ | ⟨g, cap, e, -, -, -⟩
      · omega
      cases e
      refine ⟨g, 0, rfl, ?_⟩
      have k0 := r2.cell (j := i * 3) (by omega)
      have k1 := r2.cell (j := i * 3 + 1) (by omega)
      have k2 := r2.cell (j := i * 3 + 2) (by omega)
      rw [tcell0] at k0
      rw [tcell1] at k1
      rw [tcell2] at k2
      show ThingAt w g (0 + i * 3) (ptB (lieG fa fb p q ka kc) nk K i)
      rw [Nat.zero_add]
      refine ⟨k0, k1, ?_, ?_, small_lit 3 rfl (by decide), small_lit 3 rfl (by decide), ?_⟩
      · show w.cell? _ = some (.slice ((lieG fa fb p q ka kc).a (6 * i + 3)) 1 ((lieG fa fb p q ka kc).c (6 * i + 3)))
        rw [(lg3 i).1, (lg3 i).2]; exact k2
      · show 1 ≤ (lieG fa fb p q ka kc).c (6 * i + 3)
        rw [(lg3 i).2]; exact Nat.le_refl _
      · show ValsAt w ((lieG fa fb p q ka kc).a (6 * i + 3)) 1 _
        rw [(lg3 i).1]
        refine vals_one (v := pvB (lieG fa fb p q ka kc) (nk i) (K i) i) ?_ ?_ (small_lit 5 rfl (by decide)) (small_lit 0 rfl (by decide)) ?_
        · show w.heap[q i]? = some (.cells #[.string bUnder, .string ⟨#[]⟩, .slice ((lieG fa fb p q ka kc).a (6 * i + 1)) (nk i) ((lieG fa fb p q ka kc).c (6 * i + 1))] 59 (0, 0))
          rw [(lg1 i).1, (lg1 i).2]; exact hB i hi
        · show nk i ≤ (lieG fa fb p q ka kc).c (6 * i + 1)
          rw [(lg1 i).2]; exact (hK i hi).1
        · show KeysAt w ((lieG fa fb p q ka kc).a (6 * i + 1)) (nk i) (K i)
          rw [(lg1 i).1]; exact (hK i hi).2

end Go.Proofs.YtjjggefmmeminacGreat
