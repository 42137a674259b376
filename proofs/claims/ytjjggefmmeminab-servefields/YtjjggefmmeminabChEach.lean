/-
  The contracts of change.eachField with callType's closure, and of change.callType.
-/
import Derived.Test.YtjjggefmmeminabChCall
namespace Go.Proofs.Ytjjggefmmeminab
open Go.RowKit Go.Sort

/-- A block of another kind than a row's is not the row's. -/
theorem Row.box_ne {w : World} {base e size n : Nat} {v : Value} {f : Nat → Value} (h : Row w base e size v n f) {k b t : Nat} {c : Array Value} (hk : v.ownBlock = some k) (hb : w.heap[b]? = some (.cells c t (0, 0))) (he : e ≠ t) : b ≠ k := by
  rintro rfl
  obtain ⟨c', h1⟩ := h.obj hk
  rw [h1] at hb
  simp at hb
  exact he hb.2

/-- The blocks that a round reads stand as they stood. -/
structure Boxes (w : World) (bf bt : Nat) (frm to : ByteArray) : Prop where
  f : w.heap[bf]? = some (.cells #[.string frm] 9 (0, 0))
  t : w.heap[bt]? = some (.cells #[.string to] 9 (0, 0))

theorem Boxes.kept {w w' : World} {bf bt : Nat} {frm to : ByteArray} (h : Boxes w bf bt frm to) (hB : Below w.heap.size w w') : Boxes w' bf bt frm to :=
  ⟨(hB.block _ (lt_of_block h.f)).trans h.f, (hB.block _ (lt_of_block h.t)).trans h.t⟩

theorem setCell_drewN (w : World) (q : Nat) (a : Addr) (v : Value) : (w.drewN q).setCell a v = (w.setCell a v).drewN q := rfl

/-- What a round of the inner loop leaves. -/
theorem each_hit {w0 w : World} {base n bf bt bs : Nat} {v : Value} {fv ov : Nat → Value} {S : Nat → PSeen} {frm to : ByteArray} {k m fb cap : Nat} {cs : Array Value} (h : Seens w base v n fv ov (part S frm to k m)) (hx : Boxes w bf bt frm to) (hb : Below base w0 w)
    (hs : w.heap[bs]? = some (.cells cs 154 (0, 0))) (hk : k < n) (hm : m < (S k).nf) (hto : Small to)
    (hfv : fv k = .slice (some ⟨fb, 0, none⟩) (S k).nf cap) (he : eqs ((S k).F m).type frm = true) (q : Nat) :
    Seens ((w.drewN q).setCell ⟨fb, m * 3 + 2, none⟩ (.string to)) base v n fv ov (part S frm to k (m + 1)) ∧ Boxes ((w.drewN q).setCell ⟨fb, m * 3 + 2, none⟩ (.string to)) bf bt frm to ∧ Below base w0 ((w.drewN q).setCell ⟨fb, m * 3 + 2, none⟩ (.string to)) ∧ ((w.drewN q).setCell ⟨fb, m * 3 + 2, none⟩ (.string to)).heap[bs]? = some (.cells cs 154 (0, 0)) := by
  have h' := h.kept (below_drewN w q)
  have hrow := h'.fields k hk
  have hob : (fv k).ownBlock = some fb := by rw [hfv]; rfl
  have hle := (hrow.lt hob).1
  refine ⟨part_set h' hk hm hto hfv he, ⟨?_, ?_⟩, ?_, ?_⟩
  · rw [Below.heap_setCell _ _ _ _ (hrow.box_ne hob (b := bf) hx.f (by decide))]; exact hx.f
  · rw [Below.heap_setCell _ _ _ _ (hrow.box_ne hob (b := bt) hx.t (by decide))]; exact hx.t
  · exact (hb.trans ((below_drewN w q).mono (by have := (h.fields k hk).lt hob; omega))).setCell hle _
  · rw [Below.heap_setCell _ _ _ _ (hrow.box_ne hob (b := bs) hs (by decide))]; exact hs
theorem each_miss {w0 w : World} {base n bf bt bs : Nat} {v : Value} {fv ov : Nat → Value} {S : Nat → PSeen} {frm to : ByteArray} {k m : Nat} {cs : Array Value} (h : Seens w base v n fv ov (part S frm to k m)) (hx : Boxes w bf bt frm to) (hb : Below base w0 w)
    (hs : w.heap[bs]? = some (.cells cs 154 (0, 0))) (he : eqs ((S k).F m).type frm = false) (q : Nat) :
    Seens (w.drewN q) base v n fv ov (part S frm to k (m + 1)) ∧ Boxes (w.drewN q) bf bt frm to ∧ Below base w0 (w.drewN q) ∧ (w.drewN q).heap[bs]? = some (.cells cs 154 (0, 0)) :=
  ⟨part_skip (h.kept (below_drewN w q)) he, hx.kept (below_drewN w q), ⟨hb.os, hb.tape, hb.output, hb.size, hb.block⟩, hs⟩

set_option maxRecDepth 100000 in
set_option maxHeartbeats 1000000 in
theorem eachField_any (base n bf bt : Nat) (v : Value) (fv ov : Nat → Value) (S : Nat → PSeen) (frm to : ByteArray) (w : World) (hS : Seens w base v n fv ov S) (hx : Boxes w bf bt frm to) (hto : Small to) (hbase : base ≤ w.heap.size) :
    Calls Try.prog 148 #[v, .func (.func 149) #[] #[.pointer (some ⟨bf, 0, none⟩), .pointer (some ⟨bt, 0, none⟩)]] w fun e w' => e = .returned (.tuple #[]) ∧ Seens w' base v n fv ov (part S frm to n 0) ∧ Below base w w' := by
  have hn : n ≤ 9223372036854775807 := hS.nmax
  obtain ⟨a, cap, rfl, hcap⟩ := hS.slice
  have HS : Hid (Seens w base (.slice a n cap) n fv ov S) := hS
  have HX : Hid (Boxes w bf bt frm to) := hx
  have eK := Try.e149
  clear hS hx
  go_enter Try.func148, Try.ntmps148
  go_wp2_with fail
  go_loopw [9] (fun i wr => ∃ k : Nat, k ≤ n ∧ i = .int .i64 k ∧ Seens wr base (.slice a n cap) n fv ov (part S frm to k 0) ∧ Boxes wr bf bt frm to ∧ Below base w wr) (fun i _ => n - (intOf i).toNat)
  case atStart => exact ⟨0, Nat.zero_le _, rfl, part_zero HS.out, HX.out, Below.refl _ _⟩
  case round =>
    obtain ⟨k, hk, rfl, hSr, hxr, hw⟩ := hrel
    by_cases hlt : k < n
    · obtain ⟨g, cap', hv, -, -⟩ := hSr.ptr hlt
      cases hv
      obtain ⟨k0, k1, k2, k3⟩ := hSr.cells hlt
      obtain ⟨a1, c1, e1, -⟩ := (hSr.fields k hlt).slice
      obtain ⟨a2, c2, e2, -⟩ := (hSr.owns k hlt).slice
      have hnf : (S k).nf ≤ 9223372036854775807 := (hSr.good k hlt).2.2.1
      have E1 : Hid (fv k = .slice a1 (S k).nf c1) := e1
      have e1' : fv k = .slice a1 (S k).nf c1 := e1
      have e2' : ov k = .slice a2 (S k).nf c2 := e2
      rw [e1'] at k1
      rw [e2'] at k3
      have k0' : wr.cell? ⟨g, k * 4, none⟩ = some (.string (S k).name) := k0
      have k2' : wr.cell? ⟨g, k * 4 + 2, none⟩ = some (.string (S k).own) := k2
      clear k0 k2 e1 e2 e1' e2'
      have hlt' : (k : Int) < (n : Int) := by omega
      have hk0 : (0 : Int) ≤ (k : Int) := by omega
      generalize hW : wr.alloc (Obj.cells #[.string (S k).name, .slice a1 (S k).nf c1, .string (S k).own, .slice a2 (S k).nf c2] 154) = W
      have hB : Below wr.heap.size wr W := by rw [← hW]; exact below1 _ _
      have hs0 : W.heap[wr.heap.size]? = some (.cells #[.string (S k).name, .slice a1 (S k).nf c1, .string (S k).own, .slice a2 (S k).nf c2] 154 (0, 0)) := by rw [← hW]; exact heap_alloc_new _ _
      have HSW : Hid (Seens W base (.slice (some ⟨g, 0, none⟩) n cap) n fv ov (part S frm to k 0)) := hSr.kept hB
      have HXW : Hid (Boxes W bf bt frm to) := hxr.kept hB
      have HBW : Hid (Below base w W) := hw.trans (hB.mono (by have := hw.size; omega))
      have HS0 : Hid (W.heap[wr.heap.size]? = some (.cells #[.string (S k).name, .slice a1 (S k).nf c1, .string (S k).own, .slice a2 (S k).nf c2] 154 (0, 0))) := hs0
      have b1 : W.cell? ⟨wr.heap.size, 1, none⟩ = some (.slice a1 (S k).nf c1) := by simp [World.cell?, hs0]
      clear hs0 hSr hxr hw hB
      go_wp2_with fail
      clear hW b1 k0' k1 k2' k3
      generalize wr.heap.size = bs at *
      go_loopw [17] (fun i w3 => ∃ m : Nat, m ≤ (S k).nf ∧ i = .int .i64 m ∧ Seens w3 base (.slice (some ⟨g, 0, none⟩) n cap) n fv ov (part S frm to k m) ∧ Boxes w3 bf bt frm to ∧ Below base w w3 ∧ w3.heap[bs]? = some (.cells #[.string (S k).name, .slice a1 (S k).nf c1, .string (S k).own, .slice a2 (S k).nf c2] 154 (0, 0))) (fun i _ => (S k).nf - (intOf i).toNat)
      case atStart => exact ⟨0, Nat.zero_le _, rfl, HSW.out, HXW.out, HBW.out, HS0.out⟩
      case round =>
        obtain ⟨m, hm, rfl, hSm, hxm, hwm, hsm⟩ := hrel
        by_cases hmlt : m < (S k).nf
        · have hfr := hSm.fields k hlt
          rw [E1.out] at hfr
          rcases hfr.shape with ⟨hv0, hz0⟩ | ⟨fb, fc, hv, hfb, -, -⟩
          · exact absurd (show (S k).nf = 0 from hz0) (by omega)
          cases hv
          have hmlt' : (m : Int) < ((S k).nf : Int) := by omega
          have hm0 : (0 : Int) ≤ (m : Int) := by omega
          have b1 : wr.cell? ⟨bs, 1, none⟩ = some (.slice (some ⟨fb, 0, none⟩) (S k).nf c1) := by simp [World.cell?, hsm]
          have hty : wr.cell? ⟨fb, m * 3 + 2, none⟩ = some (.string ((S k).F m).type) := by
            rw [hfr.cell (j := m * 3 + 2) (by have : (part S frm to k m k).nf = (S k).nf := rfl; omega), fieldCell2, part_at]
          have hfz := hfr.free (m * 3 + 2)
          have cf := cell_of_one hxm.f
          have ct := cell_of_one hxm.t
          have HSM : Hid (Seens wr base (.slice (some ⟨g, 0, none⟩) n cap) n fv ov (part S frm to k m)) := hSm
          have HXM : Hid (Boxes wr bf bt frm to) := hxm
          have HWM : Hid (Below base w wr) := hwm
          have HSB : Hid (wr.heap[bs]? = some (.cells #[.string (S k).name, .slice (some ⟨fb, 0, none⟩) (S k).nf c1, .string (S k).own, .slice a2 (S k).nf c2] 154 (0, 0))) := hsm
          clear hfr hSm hxm hwm hsm HSW HXW HBW HS0
          cases he : eqs ((S k).F m).type frm
          · have hcl := callType1_miss fb (m * 3) bf bt _ frm wr hty cf he
            go_wp2_with fail
            refine hcl.mono ?_
            clear hcl
            rintro e w4 ⟨rfl, q, rfl⟩
            have R := each_miss HSM.out HXM.out HWM.out HSB.out he q
            have HR : Hid _ := R
            clear R HSM HXM HWM HSB b1 hty hfz cf ct he
            go_wp2_with fail
            go_roundw
            case rel => exact ⟨m + 1, by omega, by go_num, HR.out.1, HR.out.2.1, HR.out.2.2.1, HR.out.2.2.2⟩
            case measure => simp [intOf]; omega
          · have hcl := callType1_hit fb (m * 3) bf bt _ frm to wr hty hfz cf ct he
            go_wp2_with fail
            refine hcl.mono ?_
            clear hcl
            rintro e w4 ⟨rfl, q, rfl⟩
            have R := each_hit HSM.out HXM.out HWM.out HSB.out hlt hmlt hto E1.out he q
            have HR : Hid _ := R
            clear R HSM HXM HWM HSB b1 hty hfz cf ct he
            go_wp2_with fail
            go_roundw
            case rel => exact ⟨m + 1, by omega, by go_num, HR.out.1, HR.out.2.1, HR.out.2.2.1, HR.out.2.2.2⟩
            case measure => simp [intOf]; omega
        · have hmm : m = (S k).nf := by omega
          have HSM : Hid (Seens wr base (.slice (some ⟨g, 0, none⟩) n cap) n fv ov (part S frm to (k + 1) 0)) := part_next (by rw [← hmm]; exact hSm)
          have HXM : Hid (Boxes wr bf bt frm to) := hxm
          have HWM : Hid (Below base w wr) := hwm
          clear hmm hSm hxm hwm hsm HSW HXW HBW HS0
          go_wp2_with fail
          go_roundw
          case rel => exact ⟨k + 1, by omega, by go_num, HSM.out, HXM.out, HWM.out⟩
          case measure => simp [intOf]; omega
    · have hkn : k = n := by omega
      have HSM : Hid (Seens wr base (.slice a n cap) n fv ov (part S frm to n 0)) := by have h := hSr; rw [hkn] at h; exact h
      have HWM : Hid (Below base w wr) := hw
      clear hkn hSr hxr hw
      go_wp2_with fail
      go_end0
      exact ⟨rfl, HSM.out, HWM.out⟩
end Go.Proofs.Ytjjggefmmeminab
