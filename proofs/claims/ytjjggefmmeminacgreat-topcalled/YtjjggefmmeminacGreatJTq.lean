/- Joined: TpMem, TpPair. -/
import Derived.Test.YtjjggefmmeminacGreatJTp
import Derived.Test.YtjjggefmmeminacGreatTpPlain
import Derived.Test.YtjjggefmmeminacGreatMgServRow
/-
  People, as services that lie in memory.
-/
namespace Go.Proofs.YtjjggefmmeminacGreat
open Go.RowKit Go.Sort Go.PlainAid

def lieZ (n fa fb : Nat) (p q r : Nat → Nat) : Lie := ⟨fun m => if m % 6 = 1 then (if m / 6 + 1 < n then some ⟨r (m / 6), 0, none⟩ else none) else if m % 6 = 2 then some ⟨p (m / 6), 0, none⟩ else if m % 6 = 3 then some ⟨q (m / 6), 0, none⟩ else if m % 6 = 4 then some ⟨fa, 0, none⟩ else if m % 6 = 5 then some ⟨fb, 0, none⟩ else none, fun m => if m % 6 = 0 then 0 else if m % 6 = 1 then (if m / 6 + 1 < n then 1 else 0) else 1⟩
def lieY (ta tb tc : Nat) (a1 : Option Addr) (c1 : Nat) (a4 : Option Addr) (c4 : Nat) : Lie := ⟨fun m => if m = 0 then some ⟨ta, 0, none⟩ else if m = 1 then none else if m = 2 then a1 else if m = 3 then some ⟨tb, 0, none⟩ else if m = 4 then some ⟨tc, 0, none⟩ else a4, fun m => if m = 1 then 0 else if m = 2 then c1 else if m = 5 then c4 else 1⟩
section
variable {n fa fb : Nat} {p q r : Nat → Nat} (i : Nat)
theorem lz0 : (lieZ n fa fb p q r).a (6 * i) = none ∧ (lieZ n fa fb p q r).c (6 * i) = 0 := by
  refine ⟨?_, ?_⟩
  · unfold lieZ; dsimp only; rw [if_neg (by omega), if_neg (by omega), if_neg (by omega), if_neg (by omega), if_neg (by omega)]
  · unfold lieZ; dsimp only; rw [if_pos (by omega)]
theorem lz1 : (lieZ n fa fb p q r).a (6 * i + 1) = (if i + 1 < n then some ⟨r i, 0, none⟩ else none) ∧ (lieZ n fa fb p q r).c (6 * i + 1) = if i + 1 < n then 1 else 0 := by
  have e : (6 * i + 1) / 6 = i := by omega
  refine ⟨?_, ?_⟩
  · unfold lieZ; dsimp only; rw [if_pos (by omega), e]
  · unfold lieZ; dsimp only; rw [if_neg (by omega), if_pos (by omega), e]
theorem lz2 : (lieZ n fa fb p q r).a (6 * i + 2) = some ⟨p i, 0, none⟩ ∧ (lieZ n fa fb p q r).c (6 * i + 2) = 1 := by
  have e : (6 * i + 2) / 6 = i := by omega
  refine ⟨?_, ?_⟩
  · unfold lieZ; dsimp only; rw [if_neg (by omega), if_pos (by omega), e]
  · unfold lieZ; dsimp only; rw [if_neg (by omega), if_neg (by omega)]
theorem lz3 : (lieZ n fa fb p q r).a (6 * i + 3) = some ⟨q i, 0, none⟩ ∧ (lieZ n fa fb p q r).c (6 * i + 3) = 1 := by
  have e : (6 * i + 3) / 6 = i := by omega
  refine ⟨?_, ?_⟩
  · unfold lieZ; dsimp only; rw [if_neg (by omega), if_neg (by omega), if_pos (by omega), e]
  · unfold lieZ; dsimp only; rw [if_neg (by omega), if_neg (by omega)]
end
theorem small_lit {s : ByteArray} (k : Nat) (h : s.size = k) (hk : k ≤ 1000) : Small s := by unfold Small maxLen; omega
theorem fields_one {w : World} {b : Nat} {f : LField} (h : w.heap[b]? = some (.cells #[.string f.name, .int .i64 f.kind, .string f.type] 66 (0, 0))) (hg : GoodF f) : FieldsAt w (some ⟨b, 0, none⟩) 1 (fun _ => f) :=
  ⟨by decide, fun i hi => ⟨b, 0, rfl, by
    obtain rfl : i = 0 := by omega
    exact ⟨by simp [World.cell?, h], by simp [World.cell?, h], by simp [World.cell?, h], hg⟩⟩⟩
theorem types_one {w : World} {b : Nat} {t : LType} (h : w.heap[b]? = some (.cells #[.string t.name, .slice t.fa t.nf t.fcap] 70 (0, 0))) (h1 : t.nf ≤ t.fcap) (h2 : Small t.name) (h3 : FieldsAt w t.fa t.nf t.F) : TypesAt w (some ⟨b, 0, none⟩) 1 (fun _ => t) :=
  ⟨by decide, fun i hi => ⟨b, 0, rfl, by
    obtain rfl : i = 0 := by omega
    exact ⟨by simp [World.cell?, h], by simp [World.cell?, h], h1, h2, h3⟩⟩⟩
theorem vals_one {w : World} {b : Nat} {v : LVal} (h : w.heap[b]? = some (.cells #[.string v.field, .string v.text, .slice v.ka v.nk v.kcap] 59 (0, 0))) (h1 : v.nk ≤ v.kcap) (h2 : Small v.field) (h3 : Small v.text) (h4 : KeysAt w v.ka v.nk v.K) : ValsAt w (some ⟨b, 0, none⟩) 1 (fun _ => v) :=
  ⟨by decide, fun i hi => ⟨b, 0, rfl, by
    obtain rfl : i = 0 := by omega
    exact ⟨by simp [World.cell?, h], by simp [World.cell?, h], by simp [World.cell?, h], h1, h2, h3, h4⟩⟩⟩
theorem chain_servs {w : World} {N n ba bb ta fa tb fb tc lb : Nat} {p q r : Nat → Nat} {a1 a4 : Option Addr} {c1 c4 : Nat} (hn : n ≤ 40) (hT : PpT ta fa tb fb tc w) (hF : PpF n n p q r w)
    (hTw : Two N w ba bb (.slice (some ⟨ta, 0, none⟩) 1 1) (.slice none 0 0) (.slice (some ⟨tb, 0, none⟩) 1 1) (.slice (some ⟨tc, 0, none⟩) 1 1) (.slice a1 n c1) (.slice a4 n c4) n n (tcell ⟨#[117, 115, 101, 114]⟩ p) (tcell ⟨#[109, 97, 110]⟩ q))
    (hl : w.heap[lb]? = some (.cells #[.slice (some ⟨ta, 0, none⟩) 1 1, .slice none 0 0, .slice a1 n c1, .slice (some ⟨tb, 0, none⟩) 1 1, .slice (some ⟨tc, 0, none⟩) 1 1, .slice a4 n c4] 40 (0, 0))) :
    ServsAt w (some ⟨lb, 0, none⟩) 2 (chainV (lieZ n fa fb p q r) (lieY ta tb tc a1 c1 a4 c4) n) := by
  have hcap : n ≤ c1 ∧ n ≤ c4 := by
    obtain ⟨a, c, e, h⟩ := hTw.r1.slice
    obtain ⟨a', c', e', h'⟩ := hTw.r2.slice
    cases e; cases e'
    exact ⟨h, h'⟩
  refine ⟨by decide, fun i hi => ⟨lb, 0, rfl, ?_⟩⟩
  have hi' : i = 0 ∨ i = 1 := by omega
  rcases hi' with rfl | rfl
  · refine ⟨by simp [World.cell?, hl, chainV, pplV, lieY], by simp [World.cell?, hl, chainV, pplV, lieY], by simp [World.cell?, hl, chainV, pplV, lieY], ⟨?_, ?_, ?_, Nat.le_refl _, hcap.1⟩⟩
    · exact types_one (t := pyA (lieZ n fa fb p q r)) hT.ta (Nat.le_refl _) (small_lit 4 rfl (by decide)) (fields_one (f := ⟨bName, 1, ⟨#[]⟩⟩) hT.fa ⟨small_lit 4 rfl (by decide), small_lit 0 rfl (by decide), by decide⟩)
    · exact ⟨Nat.zero_le _, fun _ hi => absurd hi (Nat.not_lt_zero _)⟩
    · refine ⟨by show n ≤ maxLen; unfold maxLen; omega, fun i hi => ?_⟩
      have hi : i < n := hi
      rcases hTw.r1.shape with ⟨-, h0⟩ | ⟨g, cap, e, -, -, -⟩
      · omega
      cases e
      refine ⟨g, 0, rfl, ?_⟩
      have k0 := hTw.r1.cell (j := i * 3) (by omega)
      have k1 := hTw.r1.cell (j := i * 3 + 1) (by omega)
      have k2 := hTw.r1.cell (j := i * 3 + 2) (by omega)
      rw [tcell0] at k0
      rw [tcell1] at k1
      rw [tcell2] at k2
      show ThingAt w g (0 + i * 3) (ptA (lieZ n fa fb p q r) i)
      rw [Nat.zero_add]
      refine ⟨k0, k1, ?_, ?_, small_lit 4 rfl (by decide), small_lit 3 rfl (by decide), ?_⟩
      · show w.cell? _ = some (.slice ((lieZ n fa fb p q r).a (6 * i + 2)) 1 ((lieZ n fa fb p q r).c (6 * i + 2)))
        rw [(lz2 i).1, (lz2 i).2]; exact k2
      · show 1 ≤ (lieZ n fa fb p q r).c (6 * i + 2)
        rw [(lz2 i).2]; exact Nat.le_refl _
      · show ValsAt w ((lieZ n fa fb p q r).a (6 * i + 2)) 1 _
        rw [(lz2 i).1]
        refine vals_one (v := pvA (lieZ n fa fb p q r) i) ?_ (Nat.zero_le _) (small_lit 4 rfl (by decide)) (small_lit 4 rfl (by decide)) ⟨Nat.zero_le _, fun _ hi => absurd hi (Nat.not_lt_zero _)⟩
        show w.heap[p i]? = some (.cells #[.string bName, .string (nameP i), .slice ((lieZ n fa fb p q r).a (6 * i)) 0 ((lieZ n fa fb p q r).c (6 * i))] 59 (0, 0))
        rw [(lz0 i).1, (lz0 i).2]; exact hF.a i hi
  · refine ⟨by simp [World.cell?, hl, chainV, pplV, lieY], by simp [World.cell?, hl, chainV, pplV, lieY], by simp [World.cell?, hl, chainV, pplV, lieY], ⟨?_, ?_, ?_, Nat.le_refl _, hcap.2⟩⟩
    · exact types_one (t := pyB (lieZ n fa fb p q r)) hT.tb (Nat.le_refl _) (small_lit 3 rfl (by decide)) (fields_one (f := ⟨bUnder, 3, bMan⟩) hT.fb ⟨small_lit 5 rfl (by decide), small_lit 3 rfl (by decide), by decide⟩)
    · refine ⟨by show 1 ≤ maxLen; decide, fun i hi => ⟨tc, 0, rfl, ?_⟩⟩
      have hi : i < 1 := hi
      obtain rfl : i = 0 := by omega
      exact ⟨by simp [World.cell?, hT.tc, chainV, pplV], by simp [World.cell?, hT.tc, chainV, pplV, bMan], by simp [World.cell?, hT.tc, chainV, pplV], by simp [World.cell?, hT.tc, chainV, pplV, bUser], small_lit 3 rfl (by decide), small_lit 0 rfl (by decide), small_lit 4 rfl (by decide)⟩
    · refine ⟨by show n ≤ maxLen; unfold maxLen; omega, fun i hi => ?_⟩
      have hi : i < n := hi
      rcases hTw.r2.shape with ⟨-, h0⟩ | ⟨g, cap, e, -, -, -⟩
      · omega
      cases e
      refine ⟨g, 0, rfl, ?_⟩
      have k0 := hTw.r2.cell (j := i * 3) (by omega)
      have k1 := hTw.r2.cell (j := i * 3 + 1) (by omega)
      have k2 := hTw.r2.cell (j := i * 3 + 2) (by omega)
      rw [tcell0] at k0
      rw [tcell1] at k1
      rw [tcell2] at k2
      show ThingAt w g (0 + i * 3) (ptB (lieZ n fa fb p q r) (fun i => if i + 1 < n then 1 else 0) (fun i _ => keyP (i + 1)) i)
      rw [Nat.zero_add]
      refine ⟨k0, k1, ?_, ?_, small_lit 3 rfl (by decide), small_lit 3 rfl (by decide), ?_⟩
      · show w.cell? _ = some (.slice ((lieZ n fa fb p q r).a (6 * i + 3)) 1 ((lieZ n fa fb p q r).c (6 * i + 3)))
        rw [(lz3 i).1, (lz3 i).2]; exact k2
      · show 1 ≤ (lieZ n fa fb p q r).c (6 * i + 3)
        rw [(lz3 i).2]; exact Nat.le_refl _
      · show ValsAt w ((lieZ n fa fb p q r).a (6 * i + 3)) 1 _
        rw [(lz3 i).1]
        have hb := hF.b i hi
        refine vals_one (v := pvB (lieZ n fa fb p q r) (if i + 1 < n then 1 else 0) (fun _ => keyP (i + 1)) i) ?_ ?_ (small_lit 5 rfl (by decide)) (small_lit 0 rfl (by decide)) ?_
        · show w.heap[q i]? = some (.cells #[.string bUnder, .string ⟨#[]⟩, .slice ((lieZ n fa fb p q r).a (6 * i + 1)) (if i + 1 < n then 1 else 0) ((lieZ n fa fb p q r).c (6 * i + 1))] 59 (0, 0))
          rw [(lz1 i).1, (lz1 i).2]
          unfold keyV at hb
          by_cases h1 : i + 1 < n
          · rw [if_pos h1] at hb ⊢; rw [if_pos h1]; exact hb
          · rw [if_neg h1] at hb ⊢; rw [if_neg h1]; exact hb
        · show (if i + 1 < n then 1 else 0) ≤ (lieZ n fa fb p q r).c (6 * i + 1)
          rw [(lz1 i).2]; exact Nat.le_refl _
        · show KeysAt w ((lieZ n fa fb p q r).a (6 * i + 1)) (if i + 1 < n then 1 else 0) _
          rw [(lz1 i).1]
          by_cases h1 : i + 1 < n
          · rw [if_pos h1, if_pos h1]
            refine ⟨by decide, fun j hj => ⟨r i, 0, rfl, ?_, small_lit 3 rfl (by decide)⟩⟩
            obtain rfl : j = 0 := by omega
            have := hF.c i hi h1
            simp [World.cell?, this]
            rfl
          · rw [if_neg h1, if_neg h1]
            exact ⟨Nat.zero_le _, fun _ hi => absurd hi (Nat.not_lt_zero _)⟩
end Go.Proofs.YtjjggefmmeminacGreat

/-
  The first two people: what is got of them, plain (the closed fact that the laws about the whole ask first).
-/
namespace Go.Proofs.YtjjggefmmeminacGreat
open Go.RowKit Go.Sort Go.PlainAid

/-- The first two people: the closed fact that the laws about the whole ask first. -/
def pairK : List (Pick 8) := [mkPick ⟨#[]⟩ bName [], mkPick ⟨#[]⟩ bUnder [mkPick ⟨#[]⟩ bName []]]
set_option maxRecDepth 100000 in
theorem pair_plain (z y : Lie) : parse (halfT 0) = .ok (bUser, keyP 0, pairK) ∧ meanE 2 (chainV z y 2) 8 bUser (keyP 0) pairK = 0 ∧ meanG 2 (chainV z y 2) 8 bUser (keyP 0) pairK = [mkGot bName 1 false (nameP 0) [] [], mkGot bUnder 3 false ⟨#[]⟩ [] [[mkGot bName 1 false (nameP 1) [] []]]] := ⟨by kernel_rfl, by kernel_rfl, by kernel_rfl⟩
end Go.Proofs.YtjjggefmmeminacGreat
