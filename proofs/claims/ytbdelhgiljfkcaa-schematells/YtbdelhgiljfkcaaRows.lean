/-
  No cell of these rows narrows 'for every input' (looked for: loops, veiled, ifaces, maps, wideKeys, modest, calm, conditions, laid).
  DERIVED. THE GIVEN ROWS OF THIS SEAT. 3 by the template 'for every input the law returns true; each argument reads behind the call as it read before'; 0 by the template 'total and deterministic' (their statements: YtbdelhgiljfkcaaTotals.lean).
  GIVEN WITH THE SEED: the statements are not yours to turn. If you find one false, say at which input.
  Laid BY PROGRAM, IN A SANDBOX (cutbox-rows.mjs): the forced cells as the released guide's own fill.sh prints them over the translation 65b21bd5606b9fc8… (all of the seat's roots in one cut). By AI agents, Wed Nov 11 2026. No macro, syntax, notation, axiom, sorry.
-/
import Derived.Test.YtbdelhgiljfkcaaChecked
import GoSem.Claim
import GoSem.ClaimJoined
import GoSem.ClaimMapViews
import Derived.JoinedTies
import Derived.KernelRfl
namespace Go.Proofs.Ytbdelhgiljfkcaa
/- THE CELL 'sum', in the pinned program and in every row, IS THE sha256 OF THE DUMP (.gsa) THAT YtbdelhgiljfkcaaProg.lean LOADS. Nothing in Lean hashes anything: it is a label: what it is worth is what the hold of that sum in a sandbox is worth. -/
noncomputable def Try.pinned : Pinned := { name := "ytbdelhgiljfkcaa", sum := "65b21bd5606b9fc8012170d75c5c8857d6745fef223698a7a53d669a717d7cae", checked := Try.checked }
namespace Rows
def none {H : Type} : Left H := { results := [], args := [] }

/-- 'stitchlaw1.SchemaTells': WHATEVER THE INPUT: true; the input reads as it did. -/
def schemaTellsSpec : ChangeSpec := { name := "schemaTells", fn := fun _ => fun
  | [d1, d2, d3] => { results := [.lit (.bool true)], args := [d1, d2, d3] }
  | _ => none }
def schemaTellsRow : OpenClaim := { program := "ytbdelhgiljfkcaa", sum := "65b21bd5606b9fc8012170d75c5c8857d6745fef223698a7a53d669a717d7cae", func := "stitchery/stitchlaw1.SchemaTells", spec := "schemaTells", unfollowed := true, recurses := true, apart := false }
def SchemaTellsSaid : Prop := schemaTellsRow.holds Try.pinned (OpenSpec.ofChange schemaTellsSpec)

/-- ITS FALSE NEIGHBOUR: 'it returns false'. Refute it at one input. -/
def schemaTellsWrong : ChangeSpec := { name := "schemaTells", fn := fun _ => fun
  | [d1, d2, d3] => { results := [.lit (.bool false)], args := [d1, d2, d3] }
  | _ => none }
def SchemaTellsWrongFalsely : Prop := schemaTellsRow.holds Try.pinned (OpenSpec.ofChange schemaTellsWrong)

/-- 'stitchlaw1.SchemaFirst': WHATEVER THE INPUT: true; the input reads as it did. -/
def schemaFirstSpec : ChangeSpec := { name := "schemaFirst", fn := fun _ => fun
  | [d1, d2, d3] => { results := [.lit (.bool true)], args := [d1, d2, d3] }
  | _ => none }
def schemaFirstRow : OpenClaim := { program := "ytbdelhgiljfkcaa", sum := "65b21bd5606b9fc8012170d75c5c8857d6745fef223698a7a53d669a717d7cae", func := "stitchery/stitchlaw1.SchemaFirst", spec := "schemaFirst", unfollowed := true, recurses := true, apart := false }
def SchemaFirstSaid : Prop := schemaFirstRow.holds Try.pinned (OpenSpec.ofChange schemaFirstSpec)

/-- ITS FALSE NEIGHBOUR: 'it returns false'. Refute it at one input. -/
def schemaFirstWrong : ChangeSpec := { name := "schemaFirst", fn := fun _ => fun
  | [d1, d2, d3] => { results := [.lit (.bool false)], args := [d1, d2, d3] }
  | _ => none }
def SchemaFirstWrongFalsely : Prop := schemaFirstRow.holds Try.pinned (OpenSpec.ofChange schemaFirstWrong)

/-- 'stitchlaw1.SchemaMore': WHATEVER THE INPUT: true; the input reads as it did. -/
def schemaMoreSpec : ChangeSpec := { name := "schemaMore", fn := fun _ => fun
  | [d1, d2, d3] => { results := [.lit (.bool true)], args := [d1, d2, d3] }
  | _ => none }
def schemaMoreRow : OpenClaim := { program := "ytbdelhgiljfkcaa", sum := "65b21bd5606b9fc8012170d75c5c8857d6745fef223698a7a53d669a717d7cae", func := "stitchery/stitchlaw1.SchemaMore", spec := "schemaMore", unfollowed := true, recurses := true, apart := false }
def SchemaMoreSaid : Prop := schemaMoreRow.holds Try.pinned (OpenSpec.ofChange schemaMoreSpec)

/-- ITS FALSE NEIGHBOUR: 'it returns false'. Refute it at one input. -/
def schemaMoreWrong : ChangeSpec := { name := "schemaMore", fn := fun _ => fun
  | [d1, d2, d3] => { results := [.lit (.bool false)], args := [d1, d2, d3] }
  | _ => none }
def SchemaMoreWrongFalsely : Prop := schemaMoreRow.holds Try.pinned (OpenSpec.ofChange schemaMoreWrong)

/- THE SECOND FORM. 'bulk': how many values and letters a reading holds, each counted each time it is reached (what is shared counts as often as it is met; a slice's spare places count too). A statement '..UptoSaid' is the law's where the arguments, and the package variables that the reading takes, are together of bulk at most 1048576: NARROWER than '..Said'. Prove '..Said' where nothing that the law and all that it calls make is longer than what came in: it says more and counts as full. Else prove '..UptoSaid'. A law counts once. -/
mutual
def uptoBulk {H : Type} : DataW H → Nat
  | .lit (.string bytes) => bytes.length + 1
  | .lit _ => 1
  | .nil => 1
  | .ptr d => uptoBulk d + 1
  | .slice elems spare => uptoBulkAll elems + uptoBulkAll spare + 1
  | .agg parts => uptoBulkAll parts + 1
  | .iface _ d => uptoBulk d + 1
  | .map entries => uptoBulkEntries entries + 1
  | .held _ => 1
def uptoBulkAll {H : Type} : List (DataW H) → Nat
  | [] => 0
  | d :: r => uptoBulk d + uptoBulkAll r
def uptoBulkEntries {H : Type} : List (Lit × DataW H) → Nat
  | [] => 0
  | x :: r => uptoBulkEntry x + uptoBulkEntries r
def uptoBulkEntry {H : Type} : Lit × DataW H → Nat
  | (.string bytes, d) => bytes.length + uptoBulk d + 1
  | (_, d) => uptoBulk d + 1
 end
def uptoSmall : (H : Type) → List (DataW H) → Bool := fun _ ds => decide (uptoBulkAll ds ≤ 1048576)
def OpenSpec.upto (s : _root_.Go.ChangeSpec) : _root_.Go.OpenSpec := { _root_.Go.OpenSpec.ofChange s with cond := some uptoSmall }

/-- 'stitchlaw1.SchemaTells', WHERE WHAT IT READS IS OF BULK AT MOST 1048576: true; the input reads as it did. -/
def schemaTellsUptoRow : OpenClaim := { program := "ytbdelhgiljfkcaa", sum := "65b21bd5606b9fc8012170d75c5c8857d6745fef223698a7a53d669a717d7cae", func := "stitchery/stitchlaw1.SchemaTells", spec := "schemaTells", unfollowed := true, recurses := true, apart := false, narrowed := true }
def SchemaTellsUptoSaid : Prop := schemaTellsUptoRow.holds Try.pinned (OpenSpec.upto schemaTellsSpec)

/-- 'stitchlaw1.SchemaFirst', WHERE WHAT IT READS IS OF BULK AT MOST 1048576: true; the input reads as it did. -/
def schemaFirstUptoRow : OpenClaim := { program := "ytbdelhgiljfkcaa", sum := "65b21bd5606b9fc8012170d75c5c8857d6745fef223698a7a53d669a717d7cae", func := "stitchery/stitchlaw1.SchemaFirst", spec := "schemaFirst", unfollowed := true, recurses := true, apart := false, narrowed := true }
def SchemaFirstUptoSaid : Prop := schemaFirstUptoRow.holds Try.pinned (OpenSpec.upto schemaFirstSpec)

/-- 'stitchlaw1.SchemaMore', WHERE WHAT IT READS IS OF BULK AT MOST 1048576: true; the input reads as it did. -/
def schemaMoreUptoRow : OpenClaim := { program := "ytbdelhgiljfkcaa", sum := "65b21bd5606b9fc8012170d75c5c8857d6745fef223698a7a53d669a717d7cae", func := "stitchery/stitchlaw1.SchemaMore", spec := "schemaMore", unfollowed := true, recurses := true, apart := false, narrowed := true }
def SchemaMoreUptoSaid : Prop := schemaMoreUptoRow.holds Try.pinned (OpenSpec.upto schemaMoreSpec)

end Rows
end Go.Proofs.Ytbdelhgiljfkcaa
