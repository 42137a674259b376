/-
  The contract of schema.Find: the number of the first type of that name, or -1.
-/
import Derived.Test.YtjjggefmmeminabIdx
import Derived.Test.YtjjggefmmeminabMem
import Derived.Test.YtjjggefmmeminabFieldF
import Derived.BigQuiet
import Derived.Shelf.Abstract
namespace Go.Proofs.Ytjjggefmmeminab
open Go.RowKit Go.Sort

theorem Try.e72 : ∀ args w, (callFunc 72 args).run Try.prog w = .ok (.enter 72 args) w := enters_of Try.func72 (by kernel_rfl) rfl

set_option maxHeartbeats 400000 in
theorem find1_any (b o cap n i bl bn : Nat) (name s : ByteArray) (w : World) (hi : i < n) (hl : w.cell? ⟨bl, 0, none⟩ = some (.slice (some ⟨b, o, none⟩) n cap)) (hm : w.cell? ⟨bn, 0, none⟩ = some (.string name))
    (hc : w.cell? ⟨b, o + i * 2, none⟩ = some (.string s)) :
    Calls Try.prog 72 #[.int .i64 (i : Int), .pointer (some ⟨bl, 0, none⟩), .pointer (some ⟨bn, 0, none⟩)] w fun e w' => e = .returned (.bool (eqs s name)) ∧ Below w.heap.size w w' := by
  have hi' : (i : Int) < (n : Int) := by omega
  have hi0 : (0 : Int) ≤ (i : Int) := by omega
  go_enter Try.func72, Try.ntmps72
  go_wp2
  go_quiet (fail)
  go_wp2
  go_ret
  exact ⟨by rw [← eqs_eq]; rfl, below_drewN _ _⟩

set_option maxHeartbeats 400000 in
theorem find_any (a : Option Addr) (n cap : Nat) (T : Nat → LType) (name : ByteArray) (w : World) (hT : TypesAt w a n T) :
    Calls Try.prog 41 #[.slice a n cap, .string name] w fun e w' => e = .returned (.int .i64 (find n T name)) ∧ Below w.heap.size w w' := by
  have hmf : ∀ (fn : Fn) (first cap : Array Value) (w : World), (Instr.makeFunc fn first cap).run Try.prog w = .ok (.func fn first cap) w := fun _ _ _ _ => rfl
  have HT : Hid (TypesAt w a n T) := hT
  have hn : n ≤ 9223372036854775807 := hT.1
  clear hT
  go_enter Try.func41, Try.ntmps41
  go_wp2_with fail
  refine (index_any n hn 72 _ (fun i => eqs (T i).name name) _ Try.e72 ?_).mono ?_
  · intro i hi w1 hw1
    obtain ⟨b, o, rfl, hc, -⟩ := HT.out.2 i hi
    refine find1_any b o cap n i _ _ name (T i).name w1 hi (keptCell hw1 ?_) (keptCell hw1 ?_) (keptCell ((below2 w _ _).trans (hw1.mono (below2 w _ _).size)) hc)
    · rw [World.cell?_alloc_past _ _ _ (by simp), World.cell?_alloc_at _ _ _ _ rfl]; rfl
    · rw [World.cell?_alloc_at _ _ _ _ (by simp)]; rfl
  · rintro e w1 ⟨rfl, hw1⟩
    go_wp2
    go_ret
    exact ⟨rfl, (below2 w _ _).trans (hw1.mono (below2 w _ _).size)⟩

end Go.Proofs.Ytjjggefmmeminab
