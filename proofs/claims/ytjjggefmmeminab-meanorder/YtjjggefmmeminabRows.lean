/-
  NARROWER THAN 'FOR EVERY INPUT', by the rows' own cells (each row's printed sentence says how): QueryTurns: loops · QueryLess: loops · MeanParts: loops · MeanNames: loops · MeanShape: loops · MeanOrder: loops.
  DERIVED. THE GIVEN ROWS OF THIS SEAT. 9 by the template 'for every input the law returns true; each argument reads behind the call as it read before'; 0 by the template 'total and deterministic' (their statements: YtjjggefmmeminabTotals.lean).
  GIVEN WITH THE SEED: the statements are not yours to turn. If you find one false, say at which input.
  Laid BY PROGRAM, IN A SANDBOX (cutbox-rows.mjs): the forced cells as the released guide's own fill.sh prints them over the translation 895b4f04d31245c9… (all of the seat's roots in one cut). By AI agents, Wed Nov 11 2026. No macro, syntax, notation, axiom, sorry.
-/
import Derived.Test.YtjjggefmmeminabChecked
import GoSem.Claim
import GoSem.ClaimJoined
import GoSem.ClaimMapViews
import Derived.JoinedTies
import Derived.KernelRfl
namespace Go.Proofs.Ytjjggefmmeminab
/- THE CELL 'sum', in the pinned program and in every row, IS THE sha256 OF THE DUMP (.gsa) THAT YtjjggefmmeminabProg.lean LOADS. Nothing in Lean hashes anything: it is a label: what it is worth is what the hold of that sum in a sandbox is worth. -/
noncomputable def Try.pinned : Pinned := { name := "ytjjggefmmeminab", sum := "895b4f04d31245c9fee78c2af096c27bfe491ff0f42df0af4879f2d24a1c3794", checked := Try.checked }
namespace Rows
def none {H : Type} : Left H := { results := [], args := [] }

/-- 'stitchlaw4.QueryTurns': WHATEVER THE INPUT: true; the input reads as it did. -/
def queryTurnsSpec : ChangeSpec := { name := "queryTurns", fn := fun _ => fun
  | [d1, d2] => { results := [.lit (.bool true)], args := [d1, d2] }
  | _ => none }
def queryTurnsRow : OpenClaim := { program := "ytjjggefmmeminab", sum := "895b4f04d31245c9fee78c2af096c27bfe491ff0f42df0af4879f2d24a1c3794", func := "stitchery/stitchlaw4.QueryTurns", spec := "queryTurns", inPlace := ["internal/abi.NoEscape", "internal/bytealg.MakeNoZero"], unfollowed := true, recurses := true, loops := true, plainKeys := false, apart := false }
def QueryTurnsSaid : Prop := queryTurnsRow.holds Try.pinned (OpenSpec.ofChange queryTurnsSpec)

/-- ITS FALSE NEIGHBOUR: 'it returns false'. Refute it at one input. -/
def queryTurnsWrong : ChangeSpec := { name := "queryTurns", fn := fun _ => fun
  | [d1, d2] => { results := [.lit (.bool false)], args := [d1, d2] }
  | _ => none }
def QueryTurnsWrongFalsely : Prop := queryTurnsRow.holds Try.pinned (OpenSpec.ofChange queryTurnsWrong)

/-- 'stitchlaw4.QueryLess': WHATEVER THE INPUT: true; the input reads as it did. -/
def queryLessSpec : ChangeSpec := { name := "queryLess", fn := fun _ => fun
  | [d1, d2, d3] => { results := [.lit (.bool true)], args := [d1, d2, d3] }
  | _ => none }
def queryLessRow : OpenClaim := { program := "ytjjggefmmeminab", sum := "895b4f04d31245c9fee78c2af096c27bfe491ff0f42df0af4879f2d24a1c3794", func := "stitchery/stitchlaw4.QueryLess", spec := "queryLess", inPlace := ["internal/abi.NoEscape", "internal/bytealg.MakeNoZero"], unfollowed := true, recurses := true, loops := true, plainKeys := false, apart := false }
def QueryLessSaid : Prop := queryLessRow.holds Try.pinned (OpenSpec.ofChange queryLessSpec)

/-- ITS FALSE NEIGHBOUR: 'it returns false'. Refute it at one input. -/
def queryLessWrong : ChangeSpec := { name := "queryLess", fn := fun _ => fun
  | [d1, d2, d3] => { results := [.lit (.bool false)], args := [d1, d2, d3] }
  | _ => none }
def QueryLessWrongFalsely : Prop := queryLessRow.holds Try.pinned (OpenSpec.ofChange queryLessWrong)

/-- 'stitchlaw5.ServeTells': WHATEVER THE INPUT: true; the input reads as it did. -/
def serveTellsSpec : ChangeSpec := { name := "serveTells", fn := fun _ => fun
  | [d1, d2] => { results := [.lit (.bool true)], args := [d1, d2] }
  | _ => none }
def serveTellsRow : OpenClaim := { program := "ytjjggefmmeminab", sum := "895b4f04d31245c9fee78c2af096c27bfe491ff0f42df0af4879f2d24a1c3794", func := "stitchery/stitchlaw5.ServeTells", spec := "serveTells", unfollowed := true, recurses := true, plainKeys := false, apart := false }
def ServeTellsSaid : Prop := serveTellsRow.holds Try.pinned (OpenSpec.ofChange serveTellsSpec)

/-- ITS FALSE NEIGHBOUR: 'it returns false'. Refute it at one input. -/
def serveTellsWrong : ChangeSpec := { name := "serveTells", fn := fun _ => fun
  | [d1, d2] => { results := [.lit (.bool false)], args := [d1, d2] }
  | _ => none }
def ServeTellsWrongFalsely : Prop := serveTellsRow.holds Try.pinned (OpenSpec.ofChange serveTellsWrong)

/-- 'stitchlaw5.ServeParts': WHATEVER THE INPUT: true; the input reads as it did. -/
def servePartsSpec : ChangeSpec := { name := "serveParts", fn := fun _ => fun
  | [d1, d2, d3] => { results := [.lit (.bool true)], args := [d1, d2, d3] }
  | _ => none }
def servePartsRow : OpenClaim := { program := "ytjjggefmmeminab", sum := "895b4f04d31245c9fee78c2af096c27bfe491ff0f42df0af4879f2d24a1c3794", func := "stitchery/stitchlaw5.ServeParts", spec := "serveParts", unfollowed := true, recurses := true, plainKeys := false, apart := false }
def ServePartsSaid : Prop := servePartsRow.holds Try.pinned (OpenSpec.ofChange servePartsSpec)

/-- ITS FALSE NEIGHBOUR: 'it returns false'. Refute it at one input. -/
def servePartsWrong : ChangeSpec := { name := "serveParts", fn := fun _ => fun
  | [d1, d2, d3] => { results := [.lit (.bool false)], args := [d1, d2, d3] }
  | _ => none }
def ServePartsWrongFalsely : Prop := servePartsRow.holds Try.pinned (OpenSpec.ofChange servePartsWrong)

/-- 'stitchlaw5.ServeFields': WHATEVER THE INPUT: true; the input reads as it did. -/
def serveFieldsSpec : ChangeSpec := { name := "serveFields", fn := fun _ => fun
  | [d1, d2] => { results := [.lit (.bool true)], args := [d1, d2] }
  | _ => none }
def serveFieldsRow : OpenClaim := { program := "ytjjggefmmeminab", sum := "895b4f04d31245c9fee78c2af096c27bfe491ff0f42df0af4879f2d24a1c3794", func := "stitchery/stitchlaw5.ServeFields", spec := "serveFields", unfollowed := true, recurses := true, plainKeys := false, apart := false }
def ServeFieldsSaid : Prop := serveFieldsRow.holds Try.pinned (OpenSpec.ofChange serveFieldsSpec)

/-- ITS FALSE NEIGHBOUR: 'it returns false'. Refute it at one input. -/
def serveFieldsWrong : ChangeSpec := { name := "serveFields", fn := fun _ => fun
  | [d1, d2] => { results := [.lit (.bool false)], args := [d1, d2] }
  | _ => none }
def ServeFieldsWrongFalsely : Prop := serveFieldsRow.holds Try.pinned (OpenSpec.ofChange serveFieldsWrong)

/-- 'stitchlaw6.MeanParts': WHATEVER THE INPUT: true; the input reads as it did. -/
def meanPartsSpec : ChangeSpec := { name := "meanParts", fn := fun _ => fun
  | [d1, d2, d3] => { results := [.lit (.bool true)], args := [d1, d2, d3] }
  | _ => none }
def meanPartsRow : OpenClaim := { program := "ytjjggefmmeminab", sum := "895b4f04d31245c9fee78c2af096c27bfe491ff0f42df0af4879f2d24a1c3794", func := "stitchery/stitchlaw6.MeanParts", spec := "meanParts", inPlace := ["internal/bytealg.abigen_runtime_cmpstring", "slices.overlaps[stitchery/api.Part]"], unfollowed := true, recurses := true, loops := true, plainKeys := false, apart := false }
def MeanPartsSaid : Prop := meanPartsRow.holds Try.pinned (OpenSpec.ofChange meanPartsSpec)

/-- ITS FALSE NEIGHBOUR: 'it returns false'. Refute it at one input. -/
def meanPartsWrong : ChangeSpec := { name := "meanParts", fn := fun _ => fun
  | [d1, d2, d3] => { results := [.lit (.bool false)], args := [d1, d2, d3] }
  | _ => none }
def MeanPartsWrongFalsely : Prop := meanPartsRow.holds Try.pinned (OpenSpec.ofChange meanPartsWrong)

/-- 'stitchlaw6.MeanNames': WHATEVER THE INPUT: true; the input reads as it did. -/
def meanNamesSpec : ChangeSpec := { name := "meanNames", fn := fun _ => fun
  | [d1, d2, d3, d4] => { results := [.lit (.bool true)], args := [d1, d2, d3, d4] }
  | _ => none }
def meanNamesRow : OpenClaim := { program := "ytjjggefmmeminab", sum := "895b4f04d31245c9fee78c2af096c27bfe491ff0f42df0af4879f2d24a1c3794", func := "stitchery/stitchlaw6.MeanNames", spec := "meanNames", inPlace := ["internal/bytealg.abigen_runtime_cmpstring", "slices.overlaps[stitchery/api.Part]"], unfollowed := true, recurses := true, loops := true, plainKeys := false, apart := false }
def MeanNamesSaid : Prop := meanNamesRow.holds Try.pinned (OpenSpec.ofChange meanNamesSpec)

/-- ITS FALSE NEIGHBOUR: 'it returns false'. Refute it at one input. -/
def meanNamesWrong : ChangeSpec := { name := "meanNames", fn := fun _ => fun
  | [d1, d2, d3, d4] => { results := [.lit (.bool false)], args := [d1, d2, d3, d4] }
  | _ => none }
def MeanNamesWrongFalsely : Prop := meanNamesRow.holds Try.pinned (OpenSpec.ofChange meanNamesWrong)

/-- 'stitchlaw6.MeanShape': WHATEVER THE INPUT: true; the input reads as it did. -/
def meanShapeSpec : ChangeSpec := { name := "meanShape", fn := fun _ => fun
  | [d1, d2] => { results := [.lit (.bool true)], args := [d1, d2] }
  | _ => none }
def meanShapeRow : OpenClaim := { program := "ytjjggefmmeminab", sum := "895b4f04d31245c9fee78c2af096c27bfe491ff0f42df0af4879f2d24a1c3794", func := "stitchery/stitchlaw6.MeanShape", spec := "meanShape", inPlace := ["internal/bytealg.abigen_runtime_cmpstring", "slices.overlaps[stitchery/api.Part]"], unfollowed := true, recurses := true, loops := true, plainKeys := false, apart := false }
def MeanShapeSaid : Prop := meanShapeRow.holds Try.pinned (OpenSpec.ofChange meanShapeSpec)

/-- ITS FALSE NEIGHBOUR: 'it returns false'. Refute it at one input. -/
def meanShapeWrong : ChangeSpec := { name := "meanShape", fn := fun _ => fun
  | [d1, d2] => { results := [.lit (.bool false)], args := [d1, d2] }
  | _ => none }
def MeanShapeWrongFalsely : Prop := meanShapeRow.holds Try.pinned (OpenSpec.ofChange meanShapeWrong)

/-- 'stitchlaw6.MeanOrder': WHATEVER THE INPUT: true; the input reads as it did. -/
def meanOrderSpec : ChangeSpec := { name := "meanOrder", fn := fun _ => fun
  | [d1, d2] => { results := [.lit (.bool true)], args := [d1, d2] }
  | _ => none }
def meanOrderRow : OpenClaim := { program := "ytjjggefmmeminab", sum := "895b4f04d31245c9fee78c2af096c27bfe491ff0f42df0af4879f2d24a1c3794", func := "stitchery/stitchlaw6.MeanOrder", spec := "meanOrder", inPlace := ["internal/bytealg.abigen_runtime_cmpstring", "slices.overlaps[stitchery/api.Part]"], unfollowed := true, recurses := true, loops := true, plainKeys := false, apart := false }
def MeanOrderSaid : Prop := meanOrderRow.holds Try.pinned (OpenSpec.ofChange meanOrderSpec)

/-- ITS FALSE NEIGHBOUR: 'it returns false'. Refute it at one input. -/
def meanOrderWrong : ChangeSpec := { name := "meanOrder", fn := fun _ => fun
  | [d1, d2] => { results := [.lit (.bool false)], args := [d1, d2] }
  | _ => none }
def MeanOrderWrongFalsely : Prop := meanOrderRow.holds Try.pinned (OpenSpec.ofChange meanOrderWrong)

/- THE SECOND FORM. 'bulk': how many values and letters a reading holds, each counted each time it is reached (what is shared counts as often as it is met; a slice's spare places count too). A statement '..UptoSaid' is the law's where the arguments, and the package variables that the reading takes, are together of bulk at most 1048576: NARROWER than '..Said'. Prove '..Said' where nothing that the law and all that it calls make is longer than what came in: it says more and counts as full. Else prove '..UptoSaid'. A law counts once. -/
mutual
def uptoBulk {H : Type} : DataW H → Nat
  | .lit (.string bytes) => bytes.length + 1
  | .lit _ => 1
  | .nil => 1
  | .ptr d => uptoBulk d + 1
  | .slice elems spare => uptoBulkAll elems + uptoBulkAll spare + 1
  | .agg parts => uptoBulkAll parts + 1
  | .iface _ d => uptoBulk d + 1
  | .map entries => uptoBulkEntries entries + 1
  | .held _ => 1
def uptoBulkAll {H : Type} : List (DataW H) → Nat
  | [] => 0
  | d :: r => uptoBulk d + uptoBulkAll r
def uptoBulkEntries {H : Type} : List (Lit × DataW H) → Nat
  | [] => 0
  | x :: r => uptoBulkEntry x + uptoBulkEntries r
def uptoBulkEntry {H : Type} : Lit × DataW H → Nat
  | (.string bytes, d) => bytes.length + uptoBulk d + 1
  | (_, d) => uptoBulk d + 1
 end
def uptoSmall : (H : Type) → List (DataW H) → Bool := fun _ ds => decide (uptoBulkAll ds ≤ 1048576)
def OpenSpec.upto (s : _root_.Go.ChangeSpec) : _root_.Go.OpenSpec := { _root_.Go.OpenSpec.ofChange s with cond := some uptoSmall }

/-- 'stitchlaw4.QueryTurns', WHERE WHAT IT READS IS OF BULK AT MOST 1048576: true; the input reads as it did. -/
def queryTurnsUptoRow : OpenClaim := { program := "ytjjggefmmeminab", sum := "895b4f04d31245c9fee78c2af096c27bfe491ff0f42df0af4879f2d24a1c3794", func := "stitchery/stitchlaw4.QueryTurns", spec := "queryTurns", inPlace := ["internal/abi.NoEscape", "internal/bytealg.MakeNoZero"], unfollowed := true, recurses := true, loops := true, plainKeys := false, apart := false, narrowed := true }
def QueryTurnsUptoSaid : Prop := queryTurnsUptoRow.holds Try.pinned (OpenSpec.upto queryTurnsSpec)

/-- 'stitchlaw4.QueryLess', WHERE WHAT IT READS IS OF BULK AT MOST 1048576: true; the input reads as it did. -/
def queryLessUptoRow : OpenClaim := { program := "ytjjggefmmeminab", sum := "895b4f04d31245c9fee78c2af096c27bfe491ff0f42df0af4879f2d24a1c3794", func := "stitchery/stitchlaw4.QueryLess", spec := "queryLess", inPlace := ["internal/abi.NoEscape", "internal/bytealg.MakeNoZero"], unfollowed := true, recurses := true, loops := true, plainKeys := false, apart := false, narrowed := true }
def QueryLessUptoSaid : Prop := queryLessUptoRow.holds Try.pinned (OpenSpec.upto queryLessSpec)

/-- 'stitchlaw5.ServeTells', WHERE WHAT IT READS IS OF BULK AT MOST 1048576: true; the input reads as it did. -/
def serveTellsUptoRow : OpenClaim := { program := "ytjjggefmmeminab", sum := "895b4f04d31245c9fee78c2af096c27bfe491ff0f42df0af4879f2d24a1c3794", func := "stitchery/stitchlaw5.ServeTells", spec := "serveTells", unfollowed := true, recurses := true, plainKeys := false, apart := false, narrowed := true }
def ServeTellsUptoSaid : Prop := serveTellsUptoRow.holds Try.pinned (OpenSpec.upto serveTellsSpec)

/-- 'stitchlaw5.ServeParts', WHERE WHAT IT READS IS OF BULK AT MOST 1048576: true; the input reads as it did. -/
def servePartsUptoRow : OpenClaim := { program := "ytjjggefmmeminab", sum := "895b4f04d31245c9fee78c2af096c27bfe491ff0f42df0af4879f2d24a1c3794", func := "stitchery/stitchlaw5.ServeParts", spec := "serveParts", unfollowed := true, recurses := true, plainKeys := false, apart := false, narrowed := true }
def ServePartsUptoSaid : Prop := servePartsUptoRow.holds Try.pinned (OpenSpec.upto servePartsSpec)

/-- 'stitchlaw5.ServeFields', WHERE WHAT IT READS IS OF BULK AT MOST 1048576: true; the input reads as it did. -/
def serveFieldsUptoRow : OpenClaim := { program := "ytjjggefmmeminab", sum := "895b4f04d31245c9fee78c2af096c27bfe491ff0f42df0af4879f2d24a1c3794", func := "stitchery/stitchlaw5.ServeFields", spec := "serveFields", unfollowed := true, recurses := true, plainKeys := false, apart := false, narrowed := true }
def ServeFieldsUptoSaid : Prop := serveFieldsUptoRow.holds Try.pinned (OpenSpec.upto serveFieldsSpec)

/-- 'stitchlaw6.MeanParts', WHERE WHAT IT READS IS OF BULK AT MOST 1048576: true; the input reads as it did. -/
def meanPartsUptoRow : OpenClaim := { program := "ytjjggefmmeminab", sum := "895b4f04d31245c9fee78c2af096c27bfe491ff0f42df0af4879f2d24a1c3794", func := "stitchery/stitchlaw6.MeanParts", spec := "meanParts", inPlace := ["internal/bytealg.abigen_runtime_cmpstring", "slices.overlaps[stitchery/api.Part]"], unfollowed := true, recurses := true, loops := true, plainKeys := false, apart := false, narrowed := true }
def MeanPartsUptoSaid : Prop := meanPartsUptoRow.holds Try.pinned (OpenSpec.upto meanPartsSpec)

/-- 'stitchlaw6.MeanNames', WHERE WHAT IT READS IS OF BULK AT MOST 1048576: true; the input reads as it did. -/
def meanNamesUptoRow : OpenClaim := { program := "ytjjggefmmeminab", sum := "895b4f04d31245c9fee78c2af096c27bfe491ff0f42df0af4879f2d24a1c3794", func := "stitchery/stitchlaw6.MeanNames", spec := "meanNames", inPlace := ["internal/bytealg.abigen_runtime_cmpstring", "slices.overlaps[stitchery/api.Part]"], unfollowed := true, recurses := true, loops := true, plainKeys := false, apart := false, narrowed := true }
def MeanNamesUptoSaid : Prop := meanNamesUptoRow.holds Try.pinned (OpenSpec.upto meanNamesSpec)

/-- 'stitchlaw6.MeanShape', WHERE WHAT IT READS IS OF BULK AT MOST 1048576: true; the input reads as it did. -/
def meanShapeUptoRow : OpenClaim := { program := "ytjjggefmmeminab", sum := "895b4f04d31245c9fee78c2af096c27bfe491ff0f42df0af4879f2d24a1c3794", func := "stitchery/stitchlaw6.MeanShape", spec := "meanShape", inPlace := ["internal/bytealg.abigen_runtime_cmpstring", "slices.overlaps[stitchery/api.Part]"], unfollowed := true, recurses := true, loops := true, plainKeys := false, apart := false, narrowed := true }
def MeanShapeUptoSaid : Prop := meanShapeUptoRow.holds Try.pinned (OpenSpec.upto meanShapeSpec)

/-- 'stitchlaw6.MeanOrder', WHERE WHAT IT READS IS OF BULK AT MOST 1048576: true; the input reads as it did. -/
def meanOrderUptoRow : OpenClaim := { program := "ytjjggefmmeminab", sum := "895b4f04d31245c9fee78c2af096c27bfe491ff0f42df0af4879f2d24a1c3794", func := "stitchery/stitchlaw6.MeanOrder", spec := "meanOrder", inPlace := ["internal/bytealg.abigen_runtime_cmpstring", "slices.overlaps[stitchery/api.Part]"], unfollowed := true, recurses := true, loops := true, plainKeys := false, apart := false, narrowed := true }
def MeanOrderUptoSaid : Prop := meanOrderUptoRow.holds Try.pinned (OpenSpec.upto meanOrderSpec)

end Rows
end Go.Proofs.Ytjjggefmmeminab
