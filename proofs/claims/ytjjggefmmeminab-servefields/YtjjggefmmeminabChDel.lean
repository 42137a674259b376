/-
  slices.Delete of one element of a row of the call's own: the row without it, in the same block.
-/
import Derived.Test.YtjjggefmmeminabChPlain
import Derived.Deep.RegionLaw
import Derived.Lib.SliceRun
namespace Go.Proofs.Ytjjggefmmeminab
open Go.RowKit Go.Sort

theorem Row.setCells {base e size n g cap : Nat} : ∀ (vs : List Value) (w : World) (f : Nat → Value) (o : Nat), Row w base e size (.slice (some ⟨g, 0, none⟩) n cap) n f →
    ∃ f', Row (w.setCells g o vs) base e size (.slice (some ⟨g, 0, none⟩) n cap) n f' ∧ (∀ q, q < o → f' q = f q) ∧ (∀ q, o + vs.length ≤ q → f' q = f q) ∧ (∀ j u, vs[j]? = some u → f' (o + j) = u) ∧ w.grownBy (w.setCells g o vs) (some g)
  | [], w, f, o, h => ⟨f, h, fun _ _ => rfl, fun _ _ => rfl, fun j u hu => by simp at hu, ⟨rfl, rfl, rfl, Nat.le_refl _, fun _ _ _ => rfl⟩⟩
  | v :: r, w, f, o, h => by
    obtain ⟨f', h1, h2, h3, h4, h5⟩ := Row.setCells r _ _ (o + 1) (h.set o v)
    have hg := (World.ownsRow.stored h o v).2
    refine ⟨f', h1, fun q hq => ?_, fun q hq => ?_, fun j u hu => ?_, ⟨h5.os.trans hg.os, h5.tape.trans hg.tape, h5.output.trans hg.output, Nat.le_trans hg.size h5.size, fun k hk hne => (h5.block k (Nat.lt_of_lt_of_le hk hg.size) hne).trans (hg.block k hk hne)⟩⟩
    · rw [h2 q (by omega), if_neg (by omega)]
    · simp at hq
      rw [h3 q (by omega), if_neg (by omega)]
    · cases j with
      | zero =>
        simp at hu
        subst hu
        rw [Nat.add_zero, h2 o (by omega), if_pos rfl]
      | succ j =>
        have := h4 j u (by simpa using hu)
        rw [show o + (j + 1) = o + 1 + j by omega]; exact this

theorem Row.cut {w : World} {base e size n m g cap : Nat} {f : Nat → Value} (h : Row w base e size (.slice (some ⟨g, 0, none⟩) n cap) n f) (hm : m ≤ n) : Row w base e size (.slice (some ⟨g, 0, none⟩) m cap) m f := by
  refine ⟨by simp, ?_⟩
  rcases h.2 with ⟨h', _⟩ | ⟨g', cap', cur, h', hb, hg, hnc, hcm, hcs, htake⟩
  · simp at h'
  · cases h'
    refine .inr ⟨g, cap, cur, rfl, hb, hg, Nat.le_trans hm hnc, hcm, hcs, ?_⟩
    have hle : m * size ≤ n * size := Nat.mul_le_mul_right _ hm
    have e : cur.toList.take (m * size) = (cur.toList.take (n * size)).take (m * size) := by rw [List.take_take, Nat.min_eq_left hle]
    rw [e, htake]
    apply List.ext_getElem?
    intro i
    rw [List.getElem?_take]
    by_cases hi : i < m * size
    · rw [if_pos hi, List.getElem?_map, List.getElem?_map, List.getElem?_range (by omega), List.getElem?_range (by omega)]
    · have hr : (List.range (m * size))[i]? = none := List.getElem?_eq_none (by rw [List.length_range]; omega)
      rw [if_neg hi, List.getElem?_map, hr]; rfl

theorem skip_cell {i size q : Nat} (hs : 0 < size) : (if q < i * size then q else q + size) / size = skip i (q / size) ∧ (if q < i * size then q else q + size) % size = q % size := by
  unfold skip
  by_cases h : q < i * size
  · rw [if_pos h, if_pos ((Nat.div_lt_iff_lt_mul hs).2 h)]; exact ⟨rfl, rfl⟩
  · rw [if_neg h, if_neg (fun h' => h ((Nat.div_lt_iff_lt_mul hs).1 h'))]
    exact ⟨Nat.add_div_right _ hs, Nat.add_mod_right _ _⟩

/-- What a moved tail and a cleared end leave. -/
theorem Row.deleted {w : World} {base e size n g cap i : Nat} {f : Nat → Value} {news zs : List Value} (h : Row w base e size (.slice (some ⟨g, 0, none⟩) n cap) n f) (hi : i < n) (hn : ∀ q, q < (n - (i + 1)) * size → news[q]? = some (f ((i + 1) * size + q))) :
    Row ((w.setCells g (i * size) news).setCells g ((n - 1) * size) zs) base e size (.slice (some ⟨g, 0, none⟩) (n - 1) cap) (n - 1) (fun q => f (if q < i * size then q else q + size)) ∧ w.grownBy ((w.setCells g (i * size) news).setCells g ((n - 1) * size) zs) (some g) := by
  obtain ⟨f1, h1, a1, a2, a3, a4⟩ := Row.setCells news w f (i * size) h
  obtain ⟨f2, h2, b1, b2, b3, b4⟩ := Row.setCells zs _ f1 ((n - 1) * size) h1
  refine ⟨(h2.cut (by omega)).congr fun q hq => ?_, ⟨b4.os.trans a4.os, b4.tape.trans a4.tape, b4.output.trans a4.output, Nat.le_trans a4.size b4.size, fun k hk hne => (b4.block k (Nat.lt_of_lt_of_le hk a4.size) hne).trans (a4.block k hk hne)⟩⟩
  rw [b1 q hq]
  by_cases hqi : q < i * size
  · rw [if_pos hqi, a1 q hqi]
  · rw [if_neg hqi]
    have hq2 : q - i * size < (n - (i + 1)) * size := by
      have : (n - 1) * size = i * size + (n - (i + 1)) * size := by rw [← Nat.add_mul]; congr 1; omega
      omega
    have := a3 (q - i * size) _ (hn _ hq2)
    rw [show i * size + (q - i * size) = q by omega] at this
    rw [this]
    congr 1
    rw [Nat.add_mul]; omega

theorem Try.info138 : (Try.prog.info? 138).map (fun i => (i.zero, i.size, i.bytes)) = some (some (.agg #[.string ⟨#[]⟩, .int .i64 0, .string ⟨#[]⟩]), 3, 40) := by kernel_rfl
theorem Try.zero138 : ∀ w, (zeroValue 138).run Try.prog w = .ok (.agg #[.string ⟨#[]⟩, .int .i64 0, .string ⟨#[]⟩]) w := fun w => by kernel_rfl
theorem Try.zero9 : ∀ w, (zeroValue 9).run Try.prog w = .ok (.string ⟨#[]⟩) w := fun w => by kernel_rfl

theorem run_clear_one (w : World) (t e ty : TypeId) (z : Value) (zs : List Value) (ht : Try.prog.underlying t = some (.slice e)) (hv : ∀ w, (zeroValue e).run Try.prog w = .ok z w) (hz : (Builtin.zeroCells z.cells 1).toList = zs) (h1 : ∀ u ∈ zs, u.oneCell' = true) (b o c : Nat)
    (hc : ∀ j, j < zs.length → (w.cell? ⟨b, o + j, none⟩).isSome = true) (hf : ∀ j, j < zs.length → w.frozen? ⟨b, o + j, none⟩ = false) :
    (Builtin.clear_ #[t] ty #[.slice (some ⟨b, o, none⟩) 1 c]).run Try.prog w = .ok (.tuple #[]) (w.setCells b o zs) := by
  have hst := run_storeCells_cells (P := Try.prog) b o zs 0 w (by simpa using hc) (by simpa using hf) h1
  simp only [Nat.add_zero] at hst
  simp [Builtin.clear_, run_underlying ht, hv, hz, hst]

set_option maxRecDepth 100000 in
set_option maxHeartbeats 1000000 in
theorem delete_fields (base n i g cap : Nat) (f : Nat → Value) (w : World) (h : Row w base 138 3 (.slice (some ⟨g, 0, none⟩) n cap) n f) (hf : ∀ q, q < n * 3 → (f q).oneCell' = true) (hi : i < n) (hm : n ≤ maxLen) :
    Calls Try.prog 150 #[.slice (some ⟨g, 0, none⟩) n cap, .int .i64 (i : Int), .int .i64 ((i : Int) + 1)] w fun e w' => e = .returned (.slice (some ⟨g, 0, none⟩) (n - 1) cap) ∧ Row w' base 138 3 (.slice (some ⟨g, 0, none⟩) (n - 1) cap) (n - 1) (fun q => f (if q < i * 3 then q else q + 3)) ∧ w.grownBy w' (some g) := by
  obtain ⟨i0, hi0, hz0, hz1, hz2⟩ := info_parts' Try.info138
  have hcap : n ≤ cap := by
    rcases h.shape with ⟨h', _⟩ | ⟨g', c', h', _, hc, _⟩
    · cases h'
    · cases h'; exact hc
  have hm' : n ≤ 9223372036854775807 := hm
  obtain ⟨news, hnews⟩ : ∃ news, news = (List.range ((n - (i + 1)) * 3)).map (fun q => f ((i + 1) * 3 + q)) := ⟨_, rfl⟩
  have hlen : news.length = (n - (i + 1)) * 3 := by rw [hnews]; simp
  have hget : ∀ q, q < (n - (i + 1)) * 3 → news[q]? = some (f ((i + 1) * 3 + q)) := fun q hq => by rw [hnews]; simp [hq]
  obtain ⟨A, hA, hsrc⟩ : ∃ A : Addr, (if cap = i + 1 then some (⟨g, 0, none⟩ : Addr) else some ⟨g, (i + 1) * 3, none⟩) = some A ∧ Hid (∀ t u, news[t]? = some u → w.drew.cell? (A.add t) = some u) := by
    by_cases hc : cap = i + 1
    · refine ⟨⟨g, 0, none⟩, by simp [hc], fun t u hu => ?_⟩
      have h0 : news.length = 0 := by rw [hlen]; omega
      rw [List.length_eq_zero_iff.1 h0] at hu
      simp at hu
    · refine ⟨⟨g, (i + 1) * 3, none⟩, by simp [hc], fun t u hu => ?_⟩
      have ht : t < (n - (i + 1)) * 3 := by
        have := (List.getElem?_eq_some_iff.1 hu).1
        rwa [hlen] at this
      rw [hget t ht] at hu
      rw [WideShapes.add_plain]
      exact (h.cell (j := (i + 1) * 3 + t) (by omega)).trans hu
  have s1 : Hid (news.length = (n - (i + 1)) * 3) := hlen
  have s2 : Hid (∀ u ∈ news, u.oneCell' = true) := by
    intro u hu
    rw [hnews] at hu
    obtain ⟨q, hq, rfl⟩ := List.mem_map.1 hu
    have : q < (n - (i + 1)) * 3 := by simpa using hq
    exact hf _ (by omega)
  have s3 : Hid (∀ t, t < news.length → (w.drew.cell? ⟨g, 0 + i * 3 + t, none⟩).isSome = true ∧ w.drew.frozen? ⟨g, 0 + i * 3 + t, none⟩ = false) := by
    intro t ht
    rw [hlen] at ht
    rw [Nat.zero_add]
    exact ⟨by show (w.cell? _).isSome = true; rw [h.cell (j := i * 3 + t) (by omega)]; rfl, h.free _⟩
  have hd : Row w.drew base 138 3 (.slice (some ⟨g, 0, none⟩) n cap) n f := h.at fun k _ => rfl
  obtain ⟨W1, hW1⟩ : ∃ W1, W1 = w.drew.setCells g (0 + i * 3) news := ⟨_, rfl⟩
  have hW : Hid (W1 = w.drew.setCells g (0 + i * 3) news) := hW1
  obtain ⟨f1, q1, -⟩ := Row.setCells news w.drew f (0 + i * 3) hd
  rw [← hW1] at q1
  have hcl : ∀ ty, (Builtin.clear_ #[97] ty #[.slice (some ⟨g, (i + (n - (i + 1))) * 3, none⟩) (n - (i + (n - (i + 1)))) (cap - (i + (n - (i + 1))))]).run Try.prog W1 = .ok (.tuple #[]) (W1.setCells g ((n - 1) * 3) [.string ⟨#[]⟩, .int .i64 0, .string ⟨#[]⟩]) := by
    intro ty
    rw [show i + (n - (i + 1)) = n - 1 by omega, show n - (n - 1) = 1 by omega]
    exact run_clear_one W1 _ _ ty _ _ Try.underlying97 Try.zero138 (by kernel_rfl) (by intro u hu; simp at hu; rcases hu with rfl | rfl | rfl <;> rfl) g _ _ (fun j hj => by have hj' : j < 3 := hj; rw [q1.cell (j := (n - 1) * 3 + j) (by omega)]; rfl) (fun j hj => q1.free _)
  have hend : Hid (Row (W1.setCells g ((n - 1) * 3) [.string ⟨#[]⟩, .int .i64 0, .string ⟨#[]⟩]) base 138 3 (.slice (some ⟨g, 0, none⟩) (n - 1) cap) (n - 1) (fun q => f (if q < i * 3 then q else q + 3)) ∧ w.grownBy (W1.setCells g ((n - 1) * 3) [.string ⟨#[]⟩, .int .i64 0, .string ⟨#[]⟩]) (some g)) := by
    have hh := Row.deleted (zs := [.string ⟨#[]⟩, .int .i64 0, .string ⟨#[]⟩]) hd hi hget
    rw [hW1, Nat.zero_add]
    exact ⟨hh.1, ⟨hh.2.os, hh.2.tape, hh.2.output, hh.2.size, hh.2.block⟩⟩
  clear h hd q1 hW1 hget hnews hlen
  have hj0 : (0 : Int) ≤ (i : Int) + 1 := by omega
  have hj1 : (i : Int) + 1 ≤ (n : Int) := by omega
  have hL : ¬ cap = i + (n - (i + 1)) := by omega
  have hic : i ≤ cap := by omega
  have hjc : i + 1 ≤ cap := by omega
  go_enter Try.func150, Try.ntmps150
  go_wp2_with fail
  go_region_law (refine step_append_room rfl (.tmp 22) (.tmp 25) 97 rfl 138 i0 3 Try.underlying97 hi0 hz1 g 0 i cap (by simp [Act.eval, Act.put]) A (n - (i + 1)) (cap - (i + 1)) news (by simp [Act.eval, Act.put]) s1.out hsrc.out s2.out (by omega) s3.out ?_; rw [← hW.out])
  go_wp2
  go_ret
  exact ⟨by rw [show n - 1 = i + (n - (i + 1)) by omega]; rfl, hend.out⟩
set_option maxRecDepth 100000 in
set_option maxHeartbeats 1000000 in
theorem delete_texts (base n i g cap : Nat) (f : Nat → Value) (w : World) (h : Row w base 9 1 (.slice (some ⟨g, 0, none⟩) n cap) n f) (hf : ∀ q, q < n * 1 → (f q).oneCell' = true) (hi : i < n) (hm : n ≤ maxLen) :
    Calls Try.prog 151 #[.slice (some ⟨g, 0, none⟩) n cap, .int .i64 (i : Int), .int .i64 ((i : Int) + 1)] w fun e w' => e = .returned (.slice (some ⟨g, 0, none⟩) (n - 1) cap) ∧ Row w' base 9 1 (.slice (some ⟨g, 0, none⟩) (n - 1) cap) (n - 1) (fun q => f (if q < i * 1 then q else q + 1)) ∧ w.grownBy w' (some g) := by
  obtain ⟨i0, hi0, hz0, hz1, hz2⟩ := info_parts' Try.info9
  have hcap : n ≤ cap := by
    rcases h.shape with ⟨h', _⟩ | ⟨g', c', h', _, hc, _⟩
    · cases h'
    · cases h'; exact hc
  have hm' : n ≤ 9223372036854775807 := hm
  obtain ⟨news, hnews⟩ : ∃ news, news = (List.range ((n - (i + 1)) * 1)).map (fun q => f ((i + 1) * 1 + q)) := ⟨_, rfl⟩
  have hlen : news.length = (n - (i + 1)) * 1 := by rw [hnews]; simp
  have hget : ∀ q, q < (n - (i + 1)) * 1 → news[q]? = some (f ((i + 1) * 1 + q)) := fun q hq => by rw [hnews, List.getElem?_map, List.getElem?_range hq]; rfl
  obtain ⟨A, hA, hsrc⟩ : ∃ A : Addr, (if cap = i + 1 then some (⟨g, 0, none⟩ : Addr) else some ⟨g, i + 1, none⟩) = some A ∧ Hid (∀ t u, news[t]? = some u → w.drew.cell? (A.add t) = some u) := by
    by_cases hc : cap = i + 1
    · refine ⟨⟨g, 0, none⟩, by simp [hc], fun t u hu => ?_⟩
      have h0 : news.length = 0 := by rw [hlen]; omega
      rw [List.length_eq_zero_iff.1 h0] at hu
      simp at hu
    · refine ⟨⟨g, i + 1, none⟩, by simp [hc], fun t u hu => ?_⟩
      have ht : t < (n - (i + 1)) * 1 := by
        have := (List.getElem?_eq_some_iff.1 hu).1
        rwa [hlen] at this
      rw [hget t ht] at hu
      rw [WideShapes.add_plain]
      rw [← Nat.mul_one (i + 1)]; exact (h.cell (j := (i + 1) * 1 + t) (by omega)).trans hu
  have s1 : Hid (news.length = (n - (i + 1)) * 1) := hlen
  have s2 : Hid (∀ u ∈ news, u.oneCell' = true) := by
    intro u hu
    rw [hnews] at hu
    obtain ⟨q, hq, rfl⟩ := List.mem_map.1 hu
    have : q < (n - (i + 1)) * 1 := by simpa using hq
    exact hf _ (by omega)
  have s3 : Hid (∀ t, t < news.length → (w.drew.cell? ⟨g, 0 + i * 1 + t, none⟩).isSome = true ∧ w.drew.frozen? ⟨g, 0 + i * 1 + t, none⟩ = false) := by
    intro t ht
    rw [hlen] at ht
    rw [Nat.zero_add]
    exact ⟨by show (w.cell? _).isSome = true; rw [h.cell (j := i * 1 + t) (by omega)]; rfl, h.free _⟩
  have hd : Row w.drew base 9 1 (.slice (some ⟨g, 0, none⟩) n cap) n f := h.at fun k _ => rfl
  obtain ⟨W1, hW1⟩ : ∃ W1, W1 = w.drew.setCells g (0 + i * 1) news := ⟨_, rfl⟩
  have hW : Hid (W1 = w.drew.setCells g (0 + i * 1) news) := hW1
  obtain ⟨f1, q1, -⟩ := Row.setCells news w.drew f (0 + i * 1) hd
  rw [← hW1] at q1
  have hcl : ∀ ty, (Builtin.clear_ #[40] ty #[.slice (some ⟨g, i + (n - (i + 1)), none⟩) (n - (i + (n - (i + 1)))) (cap - (i + (n - (i + 1))))]).run Try.prog W1 = .ok (.tuple #[]) (W1.setCells g ((n - 1) * 1) [.string ⟨#[]⟩]) := by
    intro ty
    rw [show i + (n - (i + 1)) = (n - 1) * 1 by omega, show n - (n - 1) * 1 = 1 by omega]
    exact run_clear_one W1 _ _ ty _ _ Try.underlying40 Try.zero9 (by kernel_rfl) (by intro u hu; simp at hu; subst hu; rfl) g _ _ (fun j hj => by have hj' : j < 1 := hj; rw [q1.cell (j := (n - 1) * 1 + j) (by omega)]; rfl) (fun j hj => q1.free _)
  have hend : Hid (Row (W1.setCells g ((n - 1) * 1) [.string ⟨#[]⟩]) base 9 1 (.slice (some ⟨g, 0, none⟩) (n - 1) cap) (n - 1) (fun q => f (if q < i * 1 then q else q + 1)) ∧ w.grownBy (W1.setCells g ((n - 1) * 1) [.string ⟨#[]⟩]) (some g)) := by
    have hh := Row.deleted (zs := [.string ⟨#[]⟩]) hd hi hget
    rw [hW1, Nat.zero_add]
    exact ⟨hh.1, ⟨hh.2.os, hh.2.tape, hh.2.output, hh.2.size, hh.2.block⟩⟩
  clear h hd q1 hW1 hget hnews hlen
  have hj0 : (0 : Int) ≤ (i : Int) + 1 := by omega
  have hj1 : (i : Int) + 1 ≤ (n : Int) := by omega
  have hL : ¬ cap = i + (n - (i + 1)) := by omega
  have hic : i ≤ cap := by omega
  have hjc : i + 1 ≤ cap := by omega
  go_enter Try.func151, Try.ntmps151
  go_wp2_with fail
  go_region_law (refine step_append_room rfl (.tmp 22) (.tmp 25) 40 rfl 9 i0 1 Try.underlying40 hi0 hz1 g 0 i cap (by simp [Act.eval, Act.put]) A (n - (i + 1)) (cap - (i + 1)) news (by simp [Act.eval, Act.put]) s1.out hsrc.out s2.out (by omega) s3.out ?_; rw [← hW.out])
  go_wp2
  go_ret
  exact ⟨by rw [show n - 1 = i + (n - (i + 1)) by omega]; rfl, by simpa only [Nat.mul_one] using hend.out⟩
end Go.Proofs.Ytjjggefmmeminab
