import Derived.Test.YtjjggefmmeminaaMgAlive
import Derived.Test.YtjjggefmmeminaaChBackMem
/-
  What an operation of a statement leaves that sees what a service shows: 's, g := change.See(l[o.Service].Types, l[o.Service].Changes)'.
-/
namespace Go.Proofs.Ytjjggefmmeminaa
open Go.RowKit Go.Sort

theorem Try.en26 : ∀ args w, (callFunc 26 args).run Try.prog w = .ok (.enter 26 args) w := enters_of Try.func26 (by kernel_rfl) rfl
theorem run_call' {P : Program} {o : Oper} {s : Nat → Value} {w : World} (f : FuncId) (args : Array Operand) (tys : Array TypeId) (ho : o.op = .call { callee := .value (.func f), args := args, argTypes := tys }) (he : ∀ xs w, (callFunc f xs).run P w = .ok (.enter f xs) w) : (execOp (evalS s) o).run P w = .ok (.enter f (args.map (evalS s))) w := by
  have e0 : evalS s (.func f) = .func (.func f) #[] #[] := rfl
  simp [execOp, ho, resolve, invoke, Deferred.ofValue, e0, he]
theorem opStep_call' {P : Program} {o : Oper} {s : Nat → Value} {w : World} {K : (Nat → Value) → World → Prop} (f : FuncId) (args : Array Operand) (tys : Array TypeId) (ho : o.op = .call { callee := .value (.func f), args := args, argTypes := tys }) (he : ∀ xs w, (callFunc f xs).run P w = .ok (.enter f xs) w) (vs : Array Value) (hv : args.map (evalS s) = vs)
    (hk : Calls P f vs w fun e w'' => ∃ v, e = .returned v ∧ K (updS s o.dst v) w'') : OpStep P o s w K :=
  opStep_enter (by rw [run_call' f args tys ho he, hv]) hk

def mA (B bo sb so n cap i : Nat) (s : LServ) (L : Nat → Bool) (k : Nat) (x : Value) (w : World) : Prop := match k with
  | 0 => x = .slice (some ⟨sb, so, none⟩) n cap
  | 1 => x = .pointer (some ⟨bo, 0, none⟩)
  | 2 => x = .int .i64 (i : Int)
  | 3 => x = .pointer (some ⟨sb, so + i * 3, none⟩)
  | 4 => x = .pointer (some ⟨sb, so + i * 3, none⟩)
  | 5 => x = .slice s.ta s.nt s.tcap
  | 6 => x = .slice (some ⟨sb, so, none⟩) n cap
  | 7 => x = .pointer (some ⟨bo, 0, none⟩)
  | 8 => x = .int .i64 (i : Int)
  | 9 => x = .pointer (some ⟨sb, so + i * 3, none⟩)
  | 10 => x = .pointer (some ⟨sb, so + i * 3 + 1, none⟩)
  | 11 => x = .slice s.ca s.nc s.ccap
  | 12 => pTup s.nt (seeE s) (seenS s) x w
  | 13 => pTup s.nt (seeE s) (seenS s) x w
  | 14 => OkV s.nt (seeE s) (seenS s) x w
  | 15 => x = faultA (seeE s)
  | 16 => pBox B (L 18) (seeE s) x w
  | 17 => OkV s.nt (seeE s) (seenS s) x w
  | _ => True
theorem mA_kept {B bo sb so n cap i : Nat} {s : LServ} {L L' : Nat → Bool} (k : Nat) {x : Value} {w w' : World} (hA : mA B bo sb so n cap i s L k x w) (hb : Below w.heap.size w w') (hL : L' 18 = L 18) : mA B bo sb so n cap i s L' k x w' := by
  unfold mA at *
  split
  · exact hA
  · exact hA
  · exact hA
  · exact hA
  · exact hA
  · exact hA
  · exact hA
  · exact hA
  · exact hA
  · exact hA
  · exact hA
  · exact hA
  · exact hA.kept hb
  · exact hA.kept hb
  · exact hA.kept hb
  · exact hA
  · rw [hL]; exact hA.kept hb
  · exact hA.kept hb
  · trivial
theorem mA_store {B bo sb so n cap i : Nat} {s : LServ} {L L' : Nat → Bool} (k : Nat) {x : Value} {w w' : World} (hA : mA B bo sb so n cap i s L k x w) (hOk : ∀ v, OkV s.nt (seeE s) (seenS s) v w → OkV s.nt (seeE s) (seenS s) v w') (hBox : k = 16 → pBox B (L' 18) (seeE s) x w') : mA B bo sb so n cap i s L' k x w' := by
  unfold mA at *
  split
  · exact hA
  · exact hA
  · exact hA
  · exact hA
  · exact hA
  · exact hA
  · exact hA
  · exact hA
  · exact hA
  · exact hA
  · exact hA
  · exact hA
  · obtain ⟨v, e, hv⟩ := hA; exact ⟨v, e, hOk v hv⟩
  · obtain ⟨v, e, hv⟩ := hA; exact ⟨v, e, hOk v hv⟩
  · exact hOk _ hA
  · exact hA
  · exact hBox rfl
  · exact hOk _ hA
  · trivial
end Go.Proofs.Ytjjggefmmeminaa
