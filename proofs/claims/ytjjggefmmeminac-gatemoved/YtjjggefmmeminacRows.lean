/-
  NARROWER THAN 'FOR EVERY INPUT', by the rows' own cells (each row's printed sentence says how): GateRight: loops · GateFew: loops · GateHidden: loops · GateMoved: loops.
  DERIVED. THE GIVEN ROWS OF THIS SEAT. 4 by the template 'for every input the law returns true; each argument reads behind the call as it read before'; 0 by the template 'total and deterministic' (their statements: YtjjggefmmeminacTotals.lean).
  GIVEN WITH THE SEED: the statements are not yours to turn. If you find one false, say at which input.
  Laid BY PROGRAM, IN A SANDBOX (cutbox-rows.mjs): the forced cells as the released guide's own fill.sh prints them over the translation 63997445f2311598… (all of the seat's roots in one cut). By AI agents, Wed Nov 11 2026. No macro, syntax, notation, axiom, sorry.
-/
import Derived.Test.YtjjggefmmeminacChecked
import GoSem.Claim
import GoSem.ClaimJoined
import GoSem.ClaimMapViews
import Derived.JoinedTies
import Derived.KernelRfl
namespace Go.Proofs.Ytjjggefmmeminac
/- THE CELL 'sum', in the pinned program and in every row, IS THE sha256 OF THE DUMP (.gsa) THAT YtjjggefmmeminacProg.lean LOADS. Nothing in Lean hashes anything: it is a label: what it is worth is what the hold of that sum in a sandbox is worth. -/
noncomputable def Try.pinned : Pinned := { name := "ytjjggefmmeminac", sum := "63997445f2311598daf11ba85ae44c081f80d46f89613cbe2aca794152604530", checked := Try.checked }
namespace Rows
def none {H : Type} : Left H := { results := [], args := [] }

/-- 'stitchlaw7.GateRight': WHATEVER THE INPUT: true; the input reads as it did. -/
def gateRightSpec : ChangeSpec := { name := "gateRight", fn := fun _ => fun
  | [d1, d2] => { results := [.lit (.bool true)], args := [d1, d2] }
  | _ => none }
def gateRightRow : OpenClaim := { program := "ytjjggefmmeminac", sum := "63997445f2311598daf11ba85ae44c081f80d46f89613cbe2aca794152604530", func := "stitchery/stitchlaw7.GateRight", spec := "gateRight", inPlace := ["internal/bytealg.abigen_runtime_cmpstring", "slices.overlaps[stitchery/api.Part]"], unfollowed := true, recurses := true, loops := true, plainKeys := false, apart := false }
def GateRightSaid : Prop := gateRightRow.holds Try.pinned (OpenSpec.ofChange gateRightSpec)

/-- ITS FALSE NEIGHBOUR: 'it returns false'. Refute it at one input. -/
def gateRightWrong : ChangeSpec := { name := "gateRight", fn := fun _ => fun
  | [d1, d2] => { results := [.lit (.bool false)], args := [d1, d2] }
  | _ => none }
def GateRightWrongFalsely : Prop := gateRightRow.holds Try.pinned (OpenSpec.ofChange gateRightWrong)

/-- 'stitchlaw7.GateFew': WHATEVER THE INPUT: true; the input reads as it did. -/
def gateFewSpec : ChangeSpec := { name := "gateFew", fn := fun _ => fun
  | [d1, d2] => { results := [.lit (.bool true)], args := [d1, d2] }
  | _ => none }
def gateFewRow : OpenClaim := { program := "ytjjggefmmeminac", sum := "63997445f2311598daf11ba85ae44c081f80d46f89613cbe2aca794152604530", func := "stitchery/stitchlaw7.GateFew", spec := "gateFew", inPlace := ["internal/bytealg.abigen_runtime_cmpstring", "slices.overlaps[stitchery/api.Part]"], unfollowed := true, recurses := true, loops := true, plainKeys := false, apart := false }
def GateFewSaid : Prop := gateFewRow.holds Try.pinned (OpenSpec.ofChange gateFewSpec)

/-- ITS FALSE NEIGHBOUR: 'it returns false'. Refute it at one input. -/
def gateFewWrong : ChangeSpec := { name := "gateFew", fn := fun _ => fun
  | [d1, d2] => { results := [.lit (.bool false)], args := [d1, d2] }
  | _ => none }
def GateFewWrongFalsely : Prop := gateFewRow.holds Try.pinned (OpenSpec.ofChange gateFewWrong)

/-- 'stitchlaw7.GateHidden': WHATEVER THE INPUT: true; the input reads as it did. -/
def gateHiddenSpec : ChangeSpec := { name := "gateHidden", fn := fun _ => fun
  | [d1, d2] => { results := [.lit (.bool true)], args := [d1, d2] }
  | _ => none }
def gateHiddenRow : OpenClaim := { program := "ytjjggefmmeminac", sum := "63997445f2311598daf11ba85ae44c081f80d46f89613cbe2aca794152604530", func := "stitchery/stitchlaw7.GateHidden", spec := "gateHidden", inPlace := ["internal/bytealg.abigen_runtime_cmpstring", "slices.overlaps[stitchery/api.Part]"], unfollowed := true, recurses := true, loops := true, plainKeys := false, apart := false }
def GateHiddenSaid : Prop := gateHiddenRow.holds Try.pinned (OpenSpec.ofChange gateHiddenSpec)

/-- ITS FALSE NEIGHBOUR: 'it returns false'. Refute it at one input. -/
def gateHiddenWrong : ChangeSpec := { name := "gateHidden", fn := fun _ => fun
  | [d1, d2] => { results := [.lit (.bool false)], args := [d1, d2] }
  | _ => none }
def GateHiddenWrongFalsely : Prop := gateHiddenRow.holds Try.pinned (OpenSpec.ofChange gateHiddenWrong)

/-- 'stitchlaw7.GateMoved': WHATEVER THE INPUT: true; the input reads as it did. -/
def gateMovedSpec : ChangeSpec := { name := "gateMoved", fn := fun _ => fun
  | [d1, d2, d3, d4] => { results := [.lit (.bool true)], args := [d1, d2, d3, d4] }
  | _ => none }
def gateMovedRow : OpenClaim := { program := "ytjjggefmmeminac", sum := "63997445f2311598daf11ba85ae44c081f80d46f89613cbe2aca794152604530", func := "stitchery/stitchlaw7.GateMoved", spec := "gateMoved", inPlace := ["internal/bytealg.abigen_runtime_cmpstring", "slices.overlaps[stitchery/api.Part]"], unfollowed := true, recurses := true, loops := true, plainKeys := false, apart := false }
def GateMovedSaid : Prop := gateMovedRow.holds Try.pinned (OpenSpec.ofChange gateMovedSpec)

/-- ITS FALSE NEIGHBOUR: 'it returns false'. Refute it at one input. -/
def gateMovedWrong : ChangeSpec := { name := "gateMoved", fn := fun _ => fun
  | [d1, d2, d3, d4] => { results := [.lit (.bool false)], args := [d1, d2, d3, d4] }
  | _ => none }
def GateMovedWrongFalsely : Prop := gateMovedRow.holds Try.pinned (OpenSpec.ofChange gateMovedWrong)

/- THE SECOND FORM. 'bulk': how many values and letters a reading holds, each counted each time it is reached (what is shared counts as often as it is met; a slice's spare places count too). A statement '..UptoSaid' is the law's where the arguments, and the package variables that the reading takes, are together of bulk at most 1048576: NARROWER than '..Said'. Prove '..Said' where nothing that the law and all that it calls make is longer than what came in: it says more and counts as full. Else prove '..UptoSaid'. A law counts once. -/
mutual
def uptoBulk {H : Type} : DataW H → Nat
  | .lit (.string bytes) => bytes.length + 1
  | .lit _ => 1
  | .nil => 1
  | .ptr d => uptoBulk d + 1
  | .slice elems spare => uptoBulkAll elems + uptoBulkAll spare + 1
  | .agg parts => uptoBulkAll parts + 1
  | .iface _ d => uptoBulk d + 1
  | .map entries => uptoBulkEntries entries + 1
  | .held _ => 1
def uptoBulkAll {H : Type} : List (DataW H) → Nat
  | [] => 0
  | d :: r => uptoBulk d + uptoBulkAll r
def uptoBulkEntries {H : Type} : List (Lit × DataW H) → Nat
  | [] => 0
  | x :: r => uptoBulkEntry x + uptoBulkEntries r
def uptoBulkEntry {H : Type} : Lit × DataW H → Nat
  | (.string bytes, d) => bytes.length + uptoBulk d + 1
  | (_, d) => uptoBulk d + 1
 end
def uptoSmall : (H : Type) → List (DataW H) → Bool := fun _ ds => decide (uptoBulkAll ds ≤ 1048576)
def OpenSpec.upto (s : _root_.Go.ChangeSpec) : _root_.Go.OpenSpec := { _root_.Go.OpenSpec.ofChange s with cond := some uptoSmall }

/-- 'stitchlaw7.GateRight', WHERE WHAT IT READS IS OF BULK AT MOST 1048576: true; the input reads as it did. -/
def gateRightUptoRow : OpenClaim := { program := "ytjjggefmmeminac", sum := "63997445f2311598daf11ba85ae44c081f80d46f89613cbe2aca794152604530", func := "stitchery/stitchlaw7.GateRight", spec := "gateRight", inPlace := ["internal/bytealg.abigen_runtime_cmpstring", "slices.overlaps[stitchery/api.Part]"], unfollowed := true, recurses := true, loops := true, plainKeys := false, apart := false, narrowed := true }
def GateRightUptoSaid : Prop := gateRightUptoRow.holds Try.pinned (OpenSpec.upto gateRightSpec)

/-- 'stitchlaw7.GateFew', WHERE WHAT IT READS IS OF BULK AT MOST 1048576: true; the input reads as it did. -/
def gateFewUptoRow : OpenClaim := { program := "ytjjggefmmeminac", sum := "63997445f2311598daf11ba85ae44c081f80d46f89613cbe2aca794152604530", func := "stitchery/stitchlaw7.GateFew", spec := "gateFew", inPlace := ["internal/bytealg.abigen_runtime_cmpstring", "slices.overlaps[stitchery/api.Part]"], unfollowed := true, recurses := true, loops := true, plainKeys := false, apart := false, narrowed := true }
def GateFewUptoSaid : Prop := gateFewUptoRow.holds Try.pinned (OpenSpec.upto gateFewSpec)

/-- 'stitchlaw7.GateHidden', WHERE WHAT IT READS IS OF BULK AT MOST 1048576: true; the input reads as it did. -/
def gateHiddenUptoRow : OpenClaim := { program := "ytjjggefmmeminac", sum := "63997445f2311598daf11ba85ae44c081f80d46f89613cbe2aca794152604530", func := "stitchery/stitchlaw7.GateHidden", spec := "gateHidden", inPlace := ["internal/bytealg.abigen_runtime_cmpstring", "slices.overlaps[stitchery/api.Part]"], unfollowed := true, recurses := true, loops := true, plainKeys := false, apart := false, narrowed := true }
def GateHiddenUptoSaid : Prop := gateHiddenUptoRow.holds Try.pinned (OpenSpec.upto gateHiddenSpec)

/-- 'stitchlaw7.GateMoved', WHERE WHAT IT READS IS OF BULK AT MOST 1048576: true; the input reads as it did. -/
def gateMovedUptoRow : OpenClaim := { program := "ytjjggefmmeminac", sum := "63997445f2311598daf11ba85ae44c081f80d46f89613cbe2aca794152604530", func := "stitchery/stitchlaw7.GateMoved", spec := "gateMoved", inPlace := ["internal/bytealg.abigen_runtime_cmpstring", "slices.overlaps[stitchery/api.Part]"], unfollowed := true, recurses := true, loops := true, plainKeys := false, apart := false, narrowed := true }
def GateMovedUptoSaid : Prop := gateMovedUptoRow.holds Try.pinned (OpenSpec.upto gateMovedSpec)

end Rows
end Go.Proofs.Ytjjggefmmeminac
