/-
  The contract of change.find: the number of the first seen type that is called so, or -1.
-/
import Derived.Test.YtjjggefmmeminabChMem
import Derived.Test.YtjjggefmmeminabNamed
namespace Go.Proofs.Ytjjggefmmeminab
open Go.RowKit Go.Sort

def pfind (n : Nat) (S : Nat → PSeen) (name : ByteArray) : Int := idx n (fun i => eqs (S i).name name)

theorem Try.e147 : ∀ args w, (callFunc 147 args).run Try.prog w = .ok (.enter 147 args) w := enters_of Try.func147 (by kernel_rfl) rfl

set_option maxRecDepth 100000 in
set_option maxHeartbeats 400000 in
theorem cfind1_any (bn n1 c1 n2 c2 : Nat) (a1 a2 : Option Addr) (name s o : ByteArray) (w : World) (hm : w.cell? ⟨bn, 0, none⟩ = some (.string name)) :
    Calls Try.prog 147 #[.agg #[.string s, .slice a1 n1 c1, .string o, .slice a2 n2 c2], .pointer (some ⟨bn, 0, none⟩)] w fun e w' => e = .returned (.bool (eqs s name)) ∧ Below w.heap.size w w' := by
  have hbn : bn < w.heap.size := block_lt_of_cell hm
  go_enter Try.func147, Try.ntmps147
  go_wp2
  go_ret
  exact ⟨by rw [← eqs_eq]; rfl, below1 _ _⟩

set_option maxRecDepth 100000 in
set_option maxHeartbeats 800000 in
theorem cindex_any (base n bn : Nat) (v : Value) (fv ov : Nat → Value) (S : Nat → PSeen) (name : ByteArray) (w : World) (hS : Seens w base v n fv ov S) (hm : w.cell? ⟨bn, 0, none⟩ = some (.string name)) :
    Calls Try.prog 146 #[v, .func (.func 147) #[] #[.pointer (some ⟨bn, 0, none⟩)]] w fun e w' => e = .returned (.int .i64 (pfind n S name)) ∧ Below w.heap.size w w' := by
  have hn : n ≤ 9223372036854775807 := hS.nmax
  obtain ⟨a, cap, rfl, hcap⟩ := hS.slice
  have HS : Hid (Seens w base (.slice a n cap) n fv ov S) := hS
  have eK := Try.e147
  clear hS
  go_enter Try.func146, Try.ntmps146
  go_wp2_with fail
  go_loopw [8] (fun i wr => ∃ k : Nat, k ≤ n ∧ i = .int .i64 k ∧ Hid (∀ j, j < k → eqs (S j).name name = false) ∧ Below w.heap.size w wr) (fun i _ => n - (intOf i).toNat)
  case atStart => exact ⟨0, Nat.zero_le _, rfl, (fun j hj => absurd hj (Nat.not_lt_zero _)), Below.refl _ _⟩
  case round =>
    obtain ⟨k, hk, rfl, hb, hw⟩ := hrel
    by_cases hlt : k < n
    · have hSr := HS.out.kept hw
      obtain ⟨g, cap', hv, -, -⟩ := hSr.ptr hlt
      cases hv
      obtain ⟨k0, k1, k2, k3⟩ := hSr.cells hlt
      obtain ⟨a1, c1, e1, -⟩ := (hSr.fields k hlt).slice
      obtain ⟨a2, c2, e2, -⟩ := (hSr.owns k hlt).slice
      rw [e1] at k1
      rw [e2] at k3
      clear hSr e1 e2
      have hlt' : (k : Int) < (n : Int) := by omega
      have hk0 : (0 : Int) ≤ (k : Int) := by omega
      have hcl := cfind1_any bn (S k).nf c1 (S k).nf c2 a1 a2 name (S k).name (S k).own wr (keptCell hw hm)
      go_wp2_with fail
      refine hcl.mono ?_
      clear hcl
      rintro e w1 ⟨rfl, hw1⟩
      have hw2 : Below w.heap.size w w1 := hw.trans (hw1.mono hw.size)
      clear hw1 k0 k1 k2 k3
      cases hpk : eqs (S k).name name with
      | true =>
        have hfin : Hid (pfind n S name = (k : Int)) := idx_hit hlt hpk hb
        clear hpk
        go_wp2_with fail
        go_ret
        exact ⟨by rw [hfin.out]; rfl, hw2⟩
      | false =>
        have hb2 : Hid (∀ j, j < k + 1 → eqs (S j).name name = false) := fun j hj => by
          rcases Nat.lt_succ_iff_lt_or_eq.1 hj with h | h
          · exact hb j h
          · rw [h]; exact hpk
        clear hpk
        go_wp2_with fail
        go_roundw
        case rel => exact ⟨k + 1, by omega, by go_num, hb2, hw2⟩
        case measure => simp [intOf]; omega
    · have hfin : Hid (pfind n S name = -1) := idx_none (fun j hj => hb j (by omega))
      go_wp2_with fail
      go_ret
      exact ⟨by rw [hfin.out]; rfl, hw⟩

set_option maxRecDepth 100000 in
set_option maxHeartbeats 400000 in
theorem cfind_any (base n : Nat) (v : Value) (fv ov : Nat → Value) (S : Nat → PSeen) (name : ByteArray) (w : World) (hS : Seens w base v n fv ov S) :
    Calls Try.prog 124 #[v, .string name] w fun e w' => e = .returned (.int .i64 (pfind n S name)) ∧ Below w.heap.size w w' := by
  have hmf : ∀ (fn : Fn) (first cap : Array Value) (w : World), (Instr.makeFunc fn first cap).run Try.prog w = .ok (.func fn first cap) w := fun _ _ _ _ => rfl
  have HS : Hid (Seens w base v n fv ov S) := hS
  obtain ⟨a, cap, rfl, hcap⟩ := hS.slice
  clear hS
  go_enter Try.func124, Try.ntmps124
  go_wp2_with fail
  have hB := below1 w (Obj.cells #[Value.string name] 9)
  refine (cindex_any base n w.heap.size _ fv ov S name _ (HS.out.kept hB) ?_).mono ?_
  · rw [World.cell?_alloc_at _ _ _ _ rfl]; rfl
  · rintro e w1 ⟨rfl, hw1⟩
    have hB1 := hB.trans (hw1.mono hB.size)
    clear hw1 hB
    go_wp2_with fail
    go_ret
    exact ⟨rfl, hB1⟩
end Go.Proofs.Ytjjggefmmeminab
