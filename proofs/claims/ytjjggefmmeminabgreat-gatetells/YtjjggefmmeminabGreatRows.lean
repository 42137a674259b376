/-
  NARROWER THAN 'FOR EVERY INPUT', by the rows' own cells (each row's printed sentence says how): MeanTells: loops · GateTells: loops · GateMeans: loops.
  DERIVED. THE GIVEN ROWS OF THIS SEAT. 3 by the template 'for every input the law returns true; each argument reads behind the call as it read before'; 0 by the template 'total and deterministic' (their statements: YtjjggefmmeminabGreatTotals.lean).
  GIVEN WITH THE SEED: the statements are not yours to turn. If you find one false, say at which input.
  Laid BY PROGRAM, IN A SANDBOX (cutbox-rows.mjs): the forced cells as the released guide's own fill.sh prints them over the translation 546c6f7b8bb31e41… (all of the seat's roots in one cut). By AI agents, Wed Nov 11 2026. No macro, syntax, notation, axiom, sorry.
-/
import Derived.Test.YtjjggefmmeminabGreatChecked
import GoSem.Claim
import GoSem.ClaimJoined
import GoSem.ClaimMapViews
import Derived.JoinedTies
import Derived.KernelRfl
namespace Go.Proofs.YtjjggefmmeminabGreat
/- THE CELL 'sum', in the pinned program and in every row, IS THE sha256 OF THE DUMP (.gsa) THAT YtjjggefmmeminabGreatProg.lean LOADS. Nothing in Lean hashes anything: it is a label: what it is worth is what the hold of that sum in a sandbox is worth. -/
noncomputable def Tryz.pinned : Pinned := { name := "ytjjggefmmeminabgreat", sum := "546c6f7b8bb31e418671d0eb9613180fdf866a46f180bf95d58c723f75684485", checked := Tryz.checked }
namespace Rows
def none {H : Type} : Left H := { results := [], args := [] }

/-- 'stitchlaw6.MeanTells': WHATEVER THE INPUT: true; the input reads as it did. -/
def meanTellsSpec : ChangeSpec := { name := "meanTells", fn := fun _ => fun
  | [d1, d2] => { results := [.lit (.bool true)], args := [d1, d2] }
  | _ => none }
def meanTellsRow : OpenClaim := { program := "ytjjggefmmeminabgreat", sum := "546c6f7b8bb31e418671d0eb9613180fdf866a46f180bf95d58c723f75684485", func := "stitchery/stitchlaw6.MeanTells", spec := "meanTells", inPlace := ["internal/bytealg.abigen_runtime_cmpstring", "slices.overlaps[stitchery/api.Part]"], unfollowed := true, recurses := true, loops := true, plainKeys := false, apart := false }
def MeanTellsSaid : Prop := meanTellsRow.holds Tryz.pinned (OpenSpec.ofChange meanTellsSpec)

/-- ITS FALSE NEIGHBOUR: 'it returns false'. Refute it at one input. -/
def meanTellsWrong : ChangeSpec := { name := "meanTells", fn := fun _ => fun
  | [d1, d2] => { results := [.lit (.bool false)], args := [d1, d2] }
  | _ => none }
def MeanTellsWrongFalsely : Prop := meanTellsRow.holds Tryz.pinned (OpenSpec.ofChange meanTellsWrong)

/-- 'stitchlaw7.GateTells': WHATEVER THE INPUT: true; the input reads as it did. -/
def gateTellsSpec : ChangeSpec := { name := "gateTells", fn := fun _ => fun
  | [d1, d2] => { results := [.lit (.bool true)], args := [d1, d2] }
  | _ => none }
def gateTellsRow : OpenClaim := { program := "ytjjggefmmeminabgreat", sum := "546c6f7b8bb31e418671d0eb9613180fdf866a46f180bf95d58c723f75684485", func := "stitchery/stitchlaw7.GateTells", spec := "gateTells", inPlace := ["internal/bytealg.abigen_runtime_cmpstring", "slices.overlaps[stitchery/api.Part]"], unfollowed := true, recurses := true, loops := true, plainKeys := false, apart := false }
def GateTellsSaid : Prop := gateTellsRow.holds Tryz.pinned (OpenSpec.ofChange gateTellsSpec)

/-- ITS FALSE NEIGHBOUR: 'it returns false'. Refute it at one input. -/
def gateTellsWrong : ChangeSpec := { name := "gateTells", fn := fun _ => fun
  | [d1, d2] => { results := [.lit (.bool false)], args := [d1, d2] }
  | _ => none }
def GateTellsWrongFalsely : Prop := gateTellsRow.holds Tryz.pinned (OpenSpec.ofChange gateTellsWrong)

/-- 'stitchlaw7.GateMeans': WHATEVER THE INPUT: true; the input reads as it did. -/
def gateMeansSpec : ChangeSpec := { name := "gateMeans", fn := fun _ => fun
  | [d1, d2] => { results := [.lit (.bool true)], args := [d1, d2] }
  | _ => none }
def gateMeansRow : OpenClaim := { program := "ytjjggefmmeminabgreat", sum := "546c6f7b8bb31e418671d0eb9613180fdf866a46f180bf95d58c723f75684485", func := "stitchery/stitchlaw7.GateMeans", spec := "gateMeans", inPlace := ["internal/bytealg.abigen_runtime_cmpstring", "slices.overlaps[stitchery/api.Part]"], unfollowed := true, recurses := true, loops := true, plainKeys := false, apart := false }
def GateMeansSaid : Prop := gateMeansRow.holds Tryz.pinned (OpenSpec.ofChange gateMeansSpec)

/-- ITS FALSE NEIGHBOUR: 'it returns false'. Refute it at one input. -/
def gateMeansWrong : ChangeSpec := { name := "gateMeans", fn := fun _ => fun
  | [d1, d2] => { results := [.lit (.bool false)], args := [d1, d2] }
  | _ => none }
def GateMeansWrongFalsely : Prop := gateMeansRow.holds Tryz.pinned (OpenSpec.ofChange gateMeansWrong)

/- THE SECOND FORM. 'bulk': how many values and letters a reading holds, each counted each time it is reached (what is shared counts as often as it is met; a slice's spare places count too). A statement '..UptoSaid' is the law's where the arguments, and the package variables that the reading takes, are together of bulk at most 1048576: NARROWER than '..Said'. Prove '..Said' where nothing that the law and all that it calls make is longer than what came in: it says more and counts as full. Else prove '..UptoSaid'. A law counts once. -/
mutual
def uptoBulk {H : Type} : DataW H → Nat
  | .lit (.string bytes) => bytes.length + 1
  | .lit _ => 1
  | .nil => 1
  | .ptr d => uptoBulk d + 1
  | .slice elems spare => uptoBulkAll elems + uptoBulkAll spare + 1
  | .agg parts => uptoBulkAll parts + 1
  | .iface _ d => uptoBulk d + 1
  | .map entries => uptoBulkEntries entries + 1
  | .held _ => 1
def uptoBulkAll {H : Type} : List (DataW H) → Nat
  | [] => 0
  | d :: r => uptoBulk d + uptoBulkAll r
def uptoBulkEntries {H : Type} : List (Lit × DataW H) → Nat
  | [] => 0
  | x :: r => uptoBulkEntry x + uptoBulkEntries r
def uptoBulkEntry {H : Type} : Lit × DataW H → Nat
  | (.string bytes, d) => bytes.length + uptoBulk d + 1
  | (_, d) => uptoBulk d + 1
 end
def uptoSmall : (H : Type) → List (DataW H) → Bool := fun _ ds => decide (uptoBulkAll ds ≤ 1048576)
def OpenSpec.upto (s : _root_.Go.ChangeSpec) : _root_.Go.OpenSpec := { _root_.Go.OpenSpec.ofChange s with cond := some uptoSmall }

/-- 'stitchlaw6.MeanTells', WHERE WHAT IT READS IS OF BULK AT MOST 1048576: true; the input reads as it did. -/
def meanTellsUptoRow : OpenClaim := { program := "ytjjggefmmeminabgreat", sum := "546c6f7b8bb31e418671d0eb9613180fdf866a46f180bf95d58c723f75684485", func := "stitchery/stitchlaw6.MeanTells", spec := "meanTells", inPlace := ["internal/bytealg.abigen_runtime_cmpstring", "slices.overlaps[stitchery/api.Part]"], unfollowed := true, recurses := true, loops := true, plainKeys := false, apart := false, narrowed := true }
def MeanTellsUptoSaid : Prop := meanTellsUptoRow.holds Tryz.pinned (OpenSpec.upto meanTellsSpec)

/-- 'stitchlaw7.GateTells', WHERE WHAT IT READS IS OF BULK AT MOST 1048576: true; the input reads as it did. -/
def gateTellsUptoRow : OpenClaim := { program := "ytjjggefmmeminabgreat", sum := "546c6f7b8bb31e418671d0eb9613180fdf866a46f180bf95d58c723f75684485", func := "stitchery/stitchlaw7.GateTells", spec := "gateTells", inPlace := ["internal/bytealg.abigen_runtime_cmpstring", "slices.overlaps[stitchery/api.Part]"], unfollowed := true, recurses := true, loops := true, plainKeys := false, apart := false, narrowed := true }
def GateTellsUptoSaid : Prop := gateTellsUptoRow.holds Tryz.pinned (OpenSpec.upto gateTellsSpec)

/-- 'stitchlaw7.GateMeans', WHERE WHAT IT READS IS OF BULK AT MOST 1048576: true; the input reads as it did. -/
def gateMeansUptoRow : OpenClaim := { program := "ytjjggefmmeminabgreat", sum := "546c6f7b8bb31e418671d0eb9613180fdf866a46f180bf95d58c723f75684485", func := "stitchery/stitchlaw7.GateMeans", spec := "gateMeans", inPlace := ["internal/bytealg.abigen_runtime_cmpstring", "slices.overlaps[stitchery/api.Part]"], unfollowed := true, recurses := true, loops := true, plainKeys := false, apart := false, narrowed := true }
def GateMeansUptoSaid : Prop := gateMeansUptoRow.holds Tryz.pinned (OpenSpec.upto gateMeansSpec)

end Rows
end Go.Proofs.YtjjggefmmeminabGreat
