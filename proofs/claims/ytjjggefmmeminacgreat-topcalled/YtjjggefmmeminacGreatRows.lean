/-
  NARROWER THAN 'FOR EVERY INPUT', by the rows' own cells (each row's printed sentence says how): GateOthers: loops.
  DERIVED. THE GIVEN ROWS OF THIS SEAT. 6 by the template 'for every input the law returns true; each argument reads behind the call as it read before'; 0 by the template 'total and deterministic' (their statements: YtjjggefmmeminacGreatTotals.lean).
  GIVEN WITH THE SEED: the statements are not yours to turn. If you find one false, say at which input.
  Laid BY PROGRAM, IN A SANDBOX (cutbox-rows.mjs): the forced cells as the released guide's own fill.sh prints them over the translation 9b4ac988604ff488… (all of the seat's roots in one cut). By AI agents, Wed Nov 11 2026. No macro, syntax, notation, axiom, sorry.
-/
import Derived.Test.YtjjggefmmeminacGreatChecked
import GoSem.Claim
import GoSem.ClaimJoined
import GoSem.ClaimMapViews
import Derived.JoinedTies
import Derived.KernelRfl
namespace Go.Proofs.YtjjggefmmeminacGreat
/- THE CELL 'sum', in the pinned program and in every row, IS THE sha256 OF THE DUMP (.gsa) THAT YtjjggefmmeminacGreatProg.lean LOADS. Nothing in Lean hashes anything: it is a label: what it is worth is what the hold of that sum in a sandbox is worth. -/
noncomputable def Tryz.pinned : Pinned := { name := "ytjjggefmmeminacgreat", sum := "9b4ac988604ff48854fbcd19c20ebb7af694d4c259fd7e6a90487d7718390ec1", checked := Tryz.checked }
namespace Rows
def none {H : Type} : Left H := { results := [], args := [] }

/-- 'stitchlaw7.GateOthers': WHATEVER THE INPUT: true; the input reads as it did. -/
def gateOthersSpec : ChangeSpec := { name := "gateOthers", fn := fun _ => fun
  | [d1, d2] => { results := [.lit (.bool true)], args := [d1, d2] }
  | _ => none }
def gateOthersRow : OpenClaim := { program := "ytjjggefmmeminacgreat", sum := "9b4ac988604ff48854fbcd19c20ebb7af694d4c259fd7e6a90487d7718390ec1", func := "stitchery/stitchlaw7.GateOthers", spec := "gateOthers", inPlace := ["internal/bytealg.abigen_runtime_cmpstring", "slices.overlaps[stitchery/api.Part]"], unfollowed := true, recurses := true, loops := true, plainKeys := false, apart := false }
def GateOthersSaid : Prop := gateOthersRow.holds Tryz.pinned (OpenSpec.ofChange gateOthersSpec)

/-- ITS FALSE NEIGHBOUR: 'it returns false'. Refute it at one input. -/
def gateOthersWrong : ChangeSpec := { name := "gateOthers", fn := fun _ => fun
  | [d1, d2] => { results := [.lit (.bool false)], args := [d1, d2] }
  | _ => none }
def GateOthersWrongFalsely : Prop := gateOthersRow.holds Tryz.pinned (OpenSpec.ofChange gateOthersWrong)

/-- 'stitchtop.TopText': WHATEVER THE INPUT: true; the input reads as it did. -/
def topTextSpec : ChangeSpec := { name := "topText", fn := fun _ => fun
  | [d1, d2] => { results := [.lit (.bool true)], args := [d1, d2] }
  | _ => none }
def topTextRow : OpenClaim := { program := "ytjjggefmmeminacgreat", sum := "9b4ac988604ff48854fbcd19c20ebb7af694d4c259fd7e6a90487d7718390ec1", func := "stitchery/stitchtop.TopText", spec := "topText", inPlace := ["internal/bytealg.abigen_runtime_cmpstring", "slices.overlaps[stitchery/api.Part]"], unfollowed := true, recurses := true, plainKeys := false, apart := false }
def TopTextSaid : Prop := topTextRow.holds Tryz.pinned (OpenSpec.ofChange topTextSpec)

/-- ITS FALSE NEIGHBOUR: 'it returns false'. Refute it at one input. -/
def topTextWrong : ChangeSpec := { name := "topText", fn := fun _ => fun
  | [d1, d2] => { results := [.lit (.bool false)], args := [d1, d2] }
  | _ => none }
def TopTextWrongFalsely : Prop := topTextRow.holds Tryz.pinned (OpenSpec.ofChange topTextWrong)

/-- 'stitchtop.TopChain': WHATEVER THE INPUT: true; the input reads as it did. -/
def topChainSpec : ChangeSpec := { name := "topChain", fn := fun _ => fun
  | [d1, d2] => { results := [.lit (.bool true)], args := [d1, d2] }
  | _ => none }
def topChainRow : OpenClaim := { program := "ytjjggefmmeminacgreat", sum := "9b4ac988604ff48854fbcd19c20ebb7af694d4c259fd7e6a90487d7718390ec1", func := "stitchery/stitchtop.TopChain", spec := "topChain", inPlace := ["internal/bytealg.abigen_runtime_cmpstring", "slices.overlaps[stitchery/api.Part]"], unfollowed := true, recurses := true, plainKeys := false, apart := false }
def TopChainSaid : Prop := topChainRow.holds Tryz.pinned (OpenSpec.ofChange topChainSpec)

/-- ITS FALSE NEIGHBOUR: 'it returns false'. Refute it at one input. -/
def topChainWrong : ChangeSpec := { name := "topChain", fn := fun _ => fun
  | [d1, d2] => { results := [.lit (.bool false)], args := [d1, d2] }
  | _ => none }
def TopChainWrongFalsely : Prop := topChainRow.holds Tryz.pinned (OpenSpec.ofChange topChainWrong)

/-- 'stitchtop.TopMany': WHATEVER THE INPUT: true; the input reads as it did. -/
def topManySpec : ChangeSpec := { name := "topMany", fn := fun _ => fun
  | [d] => { results := [.lit (.bool true)], args := [d] }
  | _ => none }
def topManyRow : OpenClaim := { program := "ytjjggefmmeminacgreat", sum := "9b4ac988604ff48854fbcd19c20ebb7af694d4c259fd7e6a90487d7718390ec1", func := "stitchery/stitchtop.TopMany", spec := "topMany", inPlace := ["internal/bytealg.abigen_runtime_cmpstring", "slices.overlaps[stitchery/api.Part]"], unfollowed := true, recurses := true, plainKeys := false, apart := false }
def TopManySaid : Prop := topManyRow.holds Tryz.pinned (OpenSpec.ofChange topManySpec)

/-- ITS FALSE NEIGHBOUR: 'it returns false'. Refute it at one input. -/
def topManyWrong : ChangeSpec := { name := "topMany", fn := fun _ => fun
  | [d] => { results := [.lit (.bool false)], args := [d] }
  | _ => none }
def TopManyWrongFalsely : Prop := topManyRow.holds Tryz.pinned (OpenSpec.ofChange topManyWrong)

/-- 'stitchtop.TopCalled': WHATEVER THE INPUT: true; the input reads as it did. -/
def topCalledSpec : ChangeSpec := { name := "topCalled", fn := fun _ => fun
  | [d1, d2, d3] => { results := [.lit (.bool true)], args := [d1, d2, d3] }
  | _ => none }
def topCalledRow : OpenClaim := { program := "ytjjggefmmeminacgreat", sum := "9b4ac988604ff48854fbcd19c20ebb7af694d4c259fd7e6a90487d7718390ec1", func := "stitchery/stitchtop.TopCalled", spec := "topCalled", inPlace := ["internal/bytealg.abigen_runtime_cmpstring", "slices.overlaps[stitchery/api.Part]"], unfollowed := true, recurses := true, plainKeys := false, apart := false }
def TopCalledSaid : Prop := topCalledRow.holds Tryz.pinned (OpenSpec.ofChange topCalledSpec)

/-- ITS FALSE NEIGHBOUR: 'it returns false'. Refute it at one input. -/
def topCalledWrong : ChangeSpec := { name := "topCalled", fn := fun _ => fun
  | [d1, d2, d3] => { results := [.lit (.bool false)], args := [d1, d2, d3] }
  | _ => none }
def TopCalledWrongFalsely : Prop := topCalledRow.holds Tryz.pinned (OpenSpec.ofChange topCalledWrong)

/-- 'stitchtop.TopHalf': WHATEVER THE INPUT: true; the input reads as it did. -/
def topHalfSpec : ChangeSpec := { name := "topHalf", fn := fun _ => fun
  | [d1, d2] => { results := [.lit (.bool true)], args := [d1, d2] }
  | _ => none }
def topHalfRow : OpenClaim := { program := "ytjjggefmmeminacgreat", sum := "9b4ac988604ff48854fbcd19c20ebb7af694d4c259fd7e6a90487d7718390ec1", func := "stitchery/stitchtop.TopHalf", spec := "topHalf", inPlace := ["internal/bytealg.abigen_runtime_cmpstring", "slices.overlaps[stitchery/api.Part]"], unfollowed := true, recurses := true, plainKeys := false, apart := false }
def TopHalfSaid : Prop := topHalfRow.holds Tryz.pinned (OpenSpec.ofChange topHalfSpec)

/-- ITS FALSE NEIGHBOUR: 'it returns false'. Refute it at one input. -/
def topHalfWrong : ChangeSpec := { name := "topHalf", fn := fun _ => fun
  | [d1, d2] => { results := [.lit (.bool false)], args := [d1, d2] }
  | _ => none }
def TopHalfWrongFalsely : Prop := topHalfRow.holds Tryz.pinned (OpenSpec.ofChange topHalfWrong)

/- THE SECOND FORM. 'bulk': how many values and letters a reading holds, each counted each time it is reached (what is shared counts as often as it is met; a slice's spare places count too). A statement '..UptoSaid' is the law's where the arguments, and the package variables that the reading takes, are together of bulk at most 1048576: NARROWER than '..Said'. Prove '..Said' where nothing that the law and all that it calls make is longer than what came in: it says more and counts as full. Else prove '..UptoSaid'. A law counts once. -/
mutual
def uptoBulk {H : Type} : DataW H → Nat
  | .lit (.string bytes) => bytes.length + 1
  | .lit _ => 1
  | .nil => 1
  | .ptr d => uptoBulk d + 1
  | .slice elems spare => uptoBulkAll elems + uptoBulkAll spare + 1
  | .agg parts => uptoBulkAll parts + 1
  | .iface _ d => uptoBulk d + 1
  | .map entries => uptoBulkEntries entries + 1
  | .held _ => 1
def uptoBulkAll {H : Type} : List (DataW H) → Nat
  | [] => 0
  | d :: r => uptoBulk d + uptoBulkAll r
def uptoBulkEntries {H : Type} : List (Lit × DataW H) → Nat
  | [] => 0
  | x :: r => uptoBulkEntry x + uptoBulkEntries r
def uptoBulkEntry {H : Type} : Lit × DataW H → Nat
  | (.string bytes, d) => bytes.length + uptoBulk d + 1
  | (_, d) => uptoBulk d + 1
 end
def uptoSmall : (H : Type) → List (DataW H) → Bool := fun _ ds => decide (uptoBulkAll ds ≤ 1048576)
def OpenSpec.upto (s : _root_.Go.ChangeSpec) : _root_.Go.OpenSpec := { _root_.Go.OpenSpec.ofChange s with cond := some uptoSmall }

/-- 'stitchlaw7.GateOthers', WHERE WHAT IT READS IS OF BULK AT MOST 1048576: true; the input reads as it did. -/
def gateOthersUptoRow : OpenClaim := { program := "ytjjggefmmeminacgreat", sum := "9b4ac988604ff48854fbcd19c20ebb7af694d4c259fd7e6a90487d7718390ec1", func := "stitchery/stitchlaw7.GateOthers", spec := "gateOthers", inPlace := ["internal/bytealg.abigen_runtime_cmpstring", "slices.overlaps[stitchery/api.Part]"], unfollowed := true, recurses := true, loops := true, plainKeys := false, apart := false, narrowed := true }
def GateOthersUptoSaid : Prop := gateOthersUptoRow.holds Tryz.pinned (OpenSpec.upto gateOthersSpec)

/-- 'stitchtop.TopText', WHERE WHAT IT READS IS OF BULK AT MOST 1048576: true; the input reads as it did. -/
def topTextUptoRow : OpenClaim := { program := "ytjjggefmmeminacgreat", sum := "9b4ac988604ff48854fbcd19c20ebb7af694d4c259fd7e6a90487d7718390ec1", func := "stitchery/stitchtop.TopText", spec := "topText", inPlace := ["internal/bytealg.abigen_runtime_cmpstring", "slices.overlaps[stitchery/api.Part]"], unfollowed := true, recurses := true, plainKeys := false, apart := false, narrowed := true }
def TopTextUptoSaid : Prop := topTextUptoRow.holds Tryz.pinned (OpenSpec.upto topTextSpec)

/-- 'stitchtop.TopChain', WHERE WHAT IT READS IS OF BULK AT MOST 1048576: true; the input reads as it did. -/
def topChainUptoRow : OpenClaim := { program := "ytjjggefmmeminacgreat", sum := "9b4ac988604ff48854fbcd19c20ebb7af694d4c259fd7e6a90487d7718390ec1", func := "stitchery/stitchtop.TopChain", spec := "topChain", inPlace := ["internal/bytealg.abigen_runtime_cmpstring", "slices.overlaps[stitchery/api.Part]"], unfollowed := true, recurses := true, plainKeys := false, apart := false, narrowed := true }
def TopChainUptoSaid : Prop := topChainUptoRow.holds Tryz.pinned (OpenSpec.upto topChainSpec)

/-- 'stitchtop.TopMany', WHERE WHAT IT READS IS OF BULK AT MOST 1048576: true; the input reads as it did. -/
def topManyUptoRow : OpenClaim := { program := "ytjjggefmmeminacgreat", sum := "9b4ac988604ff48854fbcd19c20ebb7af694d4c259fd7e6a90487d7718390ec1", func := "stitchery/stitchtop.TopMany", spec := "topMany", inPlace := ["internal/bytealg.abigen_runtime_cmpstring", "slices.overlaps[stitchery/api.Part]"], unfollowed := true, recurses := true, plainKeys := false, apart := false, narrowed := true }
def TopManyUptoSaid : Prop := topManyUptoRow.holds Tryz.pinned (OpenSpec.upto topManySpec)

/-- 'stitchtop.TopCalled', WHERE WHAT IT READS IS OF BULK AT MOST 1048576: true; the input reads as it did. -/
def topCalledUptoRow : OpenClaim := { program := "ytjjggefmmeminacgreat", sum := "9b4ac988604ff48854fbcd19c20ebb7af694d4c259fd7e6a90487d7718390ec1", func := "stitchery/stitchtop.TopCalled", spec := "topCalled", inPlace := ["internal/bytealg.abigen_runtime_cmpstring", "slices.overlaps[stitchery/api.Part]"], unfollowed := true, recurses := true, plainKeys := false, apart := false, narrowed := true }
def TopCalledUptoSaid : Prop := topCalledUptoRow.holds Tryz.pinned (OpenSpec.upto topCalledSpec)

/-- 'stitchtop.TopHalf', WHERE WHAT IT READS IS OF BULK AT MOST 1048576: true; the input reads as it did. -/
def topHalfUptoRow : OpenClaim := { program := "ytjjggefmmeminacgreat", sum := "9b4ac988604ff48854fbcd19c20ebb7af694d4c259fd7e6a90487d7718390ec1", func := "stitchery/stitchtop.TopHalf", spec := "topHalf", inPlace := ["internal/bytealg.abigen_runtime_cmpstring", "slices.overlaps[stitchery/api.Part]"], unfollowed := true, recurses := true, plainKeys := false, apart := false, narrowed := true }
def TopHalfUptoSaid : Prop := topHalfUptoRow.holds Tryz.pinned (OpenSpec.upto topHalfSpec)

end Rows
end Go.Proofs.YtjjggefmmeminacGreat
