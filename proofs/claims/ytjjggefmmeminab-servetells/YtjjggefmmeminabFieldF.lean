/-
  The contract of schema.Field: the number of the first field of that name, or -1.
-/
import Derived.Test.YtjjggefmmeminabIdx
import Derived.Test.YtjjggefmmeminabMem
import Derived.BigQuiet
import Derived.Shelf.Abstract
namespace Go.Proofs.Ytjjggefmmeminab
open Go.RowKit Go.Sort

theorem Try.e98 : ∀ args w, (callFunc 98 args).run Try.prog w = .ok (.enter 98 args) w := enters_of Try.func98 (by kernel_rfl) rfl

set_option maxHeartbeats 400000 in
theorem field1_any (b o cap n i bl bn : Nat) (name s : ByteArray) (w : World) (hi : i < n) (hl : w.cell? ⟨bl, 0, none⟩ = some (.slice (some ⟨b, o, none⟩) n cap)) (hm : w.cell? ⟨bn, 0, none⟩ = some (.string name))
    (hc : w.cell? ⟨b, o + i * 3, none⟩ = some (.string s)) :
    Calls Try.prog 98 #[.int .i64 (i : Int), .pointer (some ⟨bl, 0, none⟩), .pointer (some ⟨bn, 0, none⟩)] w fun e w' => e = .returned (.bool (eqs s name)) ∧ Below w.heap.size w w' := by
  have hi' : (i : Int) < (n : Int) := by omega
  have hi0 : (0 : Int) ≤ (i : Int) := by omega
  go_enter Try.func98, Try.ntmps98
  go_wp2
  go_quiet (fail)
  go_wp2
  go_ret
  exact ⟨by rw [← eqs_eq]; rfl, below_drewN _ _⟩

set_option maxHeartbeats 400000 in
theorem field_any (a : Option Addr) (n cap : Nat) (F : Nat → LField) (name : ByteArray) (w : World) (hF : FieldsAt w a n F) :
    Calls Try.prog 73 #[.slice a n cap, .string name] w fun e w' => e = .returned (.int .i64 (fieldIdx n F name)) ∧ Below w.heap.size w w' := by
  have hmf : ∀ (fn : Fn) (first cap : Array Value) (w : World), (Instr.makeFunc fn first cap).run Try.prog w = .ok (.func fn first cap) w := fun _ _ _ _ => rfl
  have HF : Hid (FieldsAt w a n F) := hF
  have hn : n ≤ 9223372036854775807 := hF.1
  clear hF
  go_enter Try.func73, Try.ntmps73
  go_wp2_with fail
  refine (index_any n hn 98 _ (fun i => eqs (F i).name name) _ Try.e98 ?_).mono ?_
  · intro i hi w1 hw1
    obtain ⟨b, o, rfl, hc, -⟩ := HF.out.2 i hi
    refine field1_any b o cap n i _ _ name (F i).name w1 hi (keptCell hw1 ?_) (keptCell hw1 ?_) (keptCell ((below2 w _ _).trans (hw1.mono (below2 w _ _).size)) hc)
    · rw [World.cell?_alloc_past _ _ _ (by simp), World.cell?_alloc_at _ _ _ _ rfl]; rfl
    · rw [World.cell?_alloc_at _ _ _ _ (by simp)]; rfl
  · rintro e w1 ⟨rfl, hw1⟩
    go_wp2
    go_ret
    exact ⟨rfl, (below2 w _ _).trans (hw1.mono (below2 w _ _).size)⟩
end Go.Proofs.Ytjjggefmmeminab
