/-
  No cell of these rows narrows 'for every input' (looked for: loops, veiled, ifaces, maps, wideKeys, modest, calm, conditions, laid).
  DERIVED. THE GIVEN ROWS OF THIS SEAT. 12 by the template 'for every input the law returns true; each argument reads behind the call as it read before'; 0 by the template 'total and deterministic' (their statements: YtghmjdmiaajbnaaTotals.lean).
  GIVEN WITH THE SEED: the statements are not yours to turn. If you find one false, say at which input.
  Laid BY PROGRAM, IN A SANDBOX (cutbox-rows.mjs): the forced cells as the released guide's own fill.sh prints them over the translation 5d62cb05285e0bf9… (all of the seat's roots in one cut). By AI agents, Wed Nov 11 2026. No macro, syntax, notation, axiom, sorry.
-/
import Derived.Test.YtghmjdmiaajbnaaChecked
import GoSem.Claim
import GoSem.ClaimJoined
import GoSem.ClaimMapViews
import Derived.JoinedTies
import Derived.KernelRfl
namespace Go.Proofs.Ytghmjdmiaajbnaa
/- THE CELL 'sum', in the pinned program and in every row, IS THE sha256 OF THE DUMP (.gsa) THAT YtghmjdmiaajbnaaProg.lean LOADS. Nothing in Lean hashes anything: it is a label: what it is worth is what the hold of that sum in a sandbox is worth. -/
noncomputable def Try.pinned : Pinned := { name := "ytghmjdmiaajbnaa", sum := "5d62cb05285e0bf92fcb91dac712c88720f462630212bb80de3e8d9620952006", checked := Try.checked }
namespace Rows
def none {H : Type} : Left H := { results := [], args := [] }

/-- 'sightbenchlaw02.ImageExamples': WHATEVER THE INPUT: true; the input reads as it did. -/
def imageExamplesSpec : ChangeSpec := { name := "imageExamples", fn := fun _ => fun
  | [] => { results := [.lit (.bool true)], args := [] }
  | _ => none }
def imageExamplesRow : OpenClaim := { program := "ytghmjdmiaajbnaa", sum := "5d62cb05285e0bf92fcb91dac712c88720f462630212bb80de3e8d9620952006", func := "sightbench/sightbenchlaw02.ImageExamples", spec := "imageExamples", unfollowed := true, recurses := true, plainKeys := false, apart := false }
def ImageExamplesSaid : Prop := imageExamplesRow.holds Try.pinned (OpenSpec.ofChange imageExamplesSpec)

/-- ITS FALSE NEIGHBOUR: 'it returns false'. Refute it at one input. -/
def imageExamplesWrong : ChangeSpec := { name := "imageExamples", fn := fun _ => fun
  | [] => { results := [.lit (.bool false)], args := [] }
  | _ => none }
def ImageExamplesWrongFalsely : Prop := imageExamplesRow.holds Try.pinned (OpenSpec.ofChange imageExamplesWrong)

/-- 'sightbenchlaw02.ImageFields': WHATEVER THE INPUT: true; the input reads as it did. -/
def imageFieldsSpec : ChangeSpec := { name := "imageFields", fn := fun _ => fun
  | [d1, d2] => { results := [.lit (.bool true)], args := [d1, d2] }
  | _ => none }
def imageFieldsRow : OpenClaim := { program := "ytghmjdmiaajbnaa", sum := "5d62cb05285e0bf92fcb91dac712c88720f462630212bb80de3e8d9620952006", func := "sightbench/sightbenchlaw02.ImageFields", spec := "imageFields", unfollowed := true, recurses := true, plainKeys := false, apart := false }
def ImageFieldsSaid : Prop := imageFieldsRow.holds Try.pinned (OpenSpec.ofChange imageFieldsSpec)

/-- ITS FALSE NEIGHBOUR: 'it returns false'. Refute it at one input. -/
def imageFieldsWrong : ChangeSpec := { name := "imageFields", fn := fun _ => fun
  | [d1, d2] => { results := [.lit (.bool false)], args := [d1, d2] }
  | _ => none }
def ImageFieldsWrongFalsely : Prop := imageFieldsRow.holds Try.pinned (OpenSpec.ofChange imageFieldsWrong)

/-- 'sightbenchlaw02.ImageAdjoint': WHATEVER THE INPUT: true; the input reads as it did. -/
def imageAdjointSpec : ChangeSpec := { name := "imageAdjoint", fn := fun _ => fun
  | [d1, d2, d3] => { results := [.lit (.bool true)], args := [d1, d2, d3] }
  | _ => none }
def imageAdjointRow : OpenClaim := { program := "ytghmjdmiaajbnaa", sum := "5d62cb05285e0bf92fcb91dac712c88720f462630212bb80de3e8d9620952006", func := "sightbench/sightbenchlaw02.ImageAdjoint", spec := "imageAdjoint", unfollowed := true, recurses := true, plainKeys := false, apart := false }
def ImageAdjointSaid : Prop := imageAdjointRow.holds Try.pinned (OpenSpec.ofChange imageAdjointSpec)

/-- ITS FALSE NEIGHBOUR: 'it returns false'. Refute it at one input. -/
def imageAdjointWrong : ChangeSpec := { name := "imageAdjoint", fn := fun _ => fun
  | [d1, d2, d3] => { results := [.lit (.bool false)], args := [d1, d2, d3] }
  | _ => none }
def ImageAdjointWrongFalsely : Prop := imageAdjointRow.holds Try.pinned (OpenSpec.ofChange imageAdjointWrong)

/-- 'sightbenchlaw02.ImageOpened': WHATEVER THE INPUT: true; the input reads as it did. -/
def imageOpenedSpec : ChangeSpec := { name := "imageOpened", fn := fun _ => fun
  | [d1, d2] => { results := [.lit (.bool true)], args := [d1, d2] }
  | _ => none }
def imageOpenedRow : OpenClaim := { program := "ytghmjdmiaajbnaa", sum := "5d62cb05285e0bf92fcb91dac712c88720f462630212bb80de3e8d9620952006", func := "sightbench/sightbenchlaw02.ImageOpened", spec := "imageOpened", unfollowed := true, recurses := true, plainKeys := false, apart := false }
def ImageOpenedSaid : Prop := imageOpenedRow.holds Try.pinned (OpenSpec.ofChange imageOpenedSpec)

/-- ITS FALSE NEIGHBOUR: 'it returns false'. Refute it at one input. -/
def imageOpenedWrong : ChangeSpec := { name := "imageOpened", fn := fun _ => fun
  | [d1, d2] => { results := [.lit (.bool false)], args := [d1, d2] }
  | _ => none }
def ImageOpenedWrongFalsely : Prop := imageOpenedRow.holds Try.pinned (OpenSpec.ofChange imageOpenedWrong)

/-- 'sightbenchlaw02.ImageLattice': WHATEVER THE INPUT: true; the input reads as it did. -/
def imageLatticeSpec : ChangeSpec := { name := "imageLattice", fn := fun _ => fun
  | [d1, d2, d3] => { results := [.lit (.bool true)], args := [d1, d2, d3] }
  | _ => none }
def imageLatticeRow : OpenClaim := { program := "ytghmjdmiaajbnaa", sum := "5d62cb05285e0bf92fcb91dac712c88720f462630212bb80de3e8d9620952006", func := "sightbench/sightbenchlaw02.ImageLattice", spec := "imageLattice", unfollowed := true, recurses := true, plainKeys := false, apart := false }
def ImageLatticeSaid : Prop := imageLatticeRow.holds Try.pinned (OpenSpec.ofChange imageLatticeSpec)

/-- ITS FALSE NEIGHBOUR: 'it returns false'. Refute it at one input. -/
def imageLatticeWrong : ChangeSpec := { name := "imageLattice", fn := fun _ => fun
  | [d1, d2, d3] => { results := [.lit (.bool false)], args := [d1, d2, d3] }
  | _ => none }
def ImageLatticeWrongFalsely : Prop := imageLatticeRow.holds Try.pinned (OpenSpec.ofChange imageLatticeWrong)

/-- 'sightbenchlaw02.ImageLinear': WHATEVER THE INPUT: true; the input reads as it did. -/
def imageLinearSpec : ChangeSpec := { name := "imageLinear", fn := fun _ => fun
  | [d1, d2, d3, d4] => { results := [.lit (.bool true)], args := [d1, d2, d3, d4] }
  | _ => none }
def imageLinearRow : OpenClaim := { program := "ytghmjdmiaajbnaa", sum := "5d62cb05285e0bf92fcb91dac712c88720f462630212bb80de3e8d9620952006", func := "sightbench/sightbenchlaw02.ImageLinear", spec := "imageLinear", unfollowed := true, recurses := true, plainKeys := false, apart := false }
def ImageLinearSaid : Prop := imageLinearRow.holds Try.pinned (OpenSpec.ofChange imageLinearSpec)

/-- ITS FALSE NEIGHBOUR: 'it returns false'. Refute it at one input. -/
def imageLinearWrong : ChangeSpec := { name := "imageLinear", fn := fun _ => fun
  | [d1, d2, d3, d4] => { results := [.lit (.bool false)], args := [d1, d2, d3, d4] }
  | _ => none }
def ImageLinearWrongFalsely : Prop := imageLinearRow.holds Try.pinned (OpenSpec.ofChange imageLinearWrong)

/-- 'sightbenchlaw02.ImageComposed': WHATEVER THE INPUT: true; the input reads as it did. -/
def imageComposedSpec : ChangeSpec := { name := "imageComposed", fn := fun _ => fun
  | [d1, d2, d3] => { results := [.lit (.bool true)], args := [d1, d2, d3] }
  | _ => none }
def imageComposedRow : OpenClaim := { program := "ytghmjdmiaajbnaa", sum := "5d62cb05285e0bf92fcb91dac712c88720f462630212bb80de3e8d9620952006", func := "sightbench/sightbenchlaw02.ImageComposed", spec := "imageComposed", unfollowed := true, recurses := true, plainKeys := false, apart := false }
def ImageComposedSaid : Prop := imageComposedRow.holds Try.pinned (OpenSpec.ofChange imageComposedSpec)

/-- ITS FALSE NEIGHBOUR: 'it returns false'. Refute it at one input. -/
def imageComposedWrong : ChangeSpec := { name := "imageComposed", fn := fun _ => fun
  | [d1, d2, d3] => { results := [.lit (.bool false)], args := [d1, d2, d3] }
  | _ => none }
def ImageComposedWrongFalsely : Prop := imageComposedRow.holds Try.pinned (OpenSpec.ofChange imageComposedWrong)

/-- 'sightbenchlaw02.ImageNearest': WHATEVER THE INPUT: true; the input reads as it did. -/
def imageNearestSpec : ChangeSpec := { name := "imageNearest", fn := fun _ => fun
  | [d] => { results := [.lit (.bool true)], args := [d] }
  | _ => none }
def imageNearestRow : OpenClaim := { program := "ytghmjdmiaajbnaa", sum := "5d62cb05285e0bf92fcb91dac712c88720f462630212bb80de3e8d9620952006", func := "sightbench/sightbenchlaw02.ImageNearest", spec := "imageNearest", unfollowed := true, recurses := true, plainKeys := false, apart := false }
def ImageNearestSaid : Prop := imageNearestRow.holds Try.pinned (OpenSpec.ofChange imageNearestSpec)

/-- ITS FALSE NEIGHBOUR: 'it returns false'. Refute it at one input. -/
def imageNearestWrong : ChangeSpec := { name := "imageNearest", fn := fun _ => fun
  | [d] => { results := [.lit (.bool false)], args := [d] }
  | _ => none }
def ImageNearestWrongFalsely : Prop := imageNearestRow.holds Try.pinned (OpenSpec.ofChange imageNearestWrong)

/-- 'sightbenchlaw02.ImageTotals': WHATEVER THE INPUT: true; the input reads as it did. -/
def imageTotalsSpec : ChangeSpec := { name := "imageTotals", fn := fun _ => fun
  | [d1, d2, d3, d4, d5] => { results := [.lit (.bool true)], args := [d1, d2, d3, d4, d5] }
  | _ => none }
def imageTotalsRow : OpenClaim := { program := "ytghmjdmiaajbnaa", sum := "5d62cb05285e0bf92fcb91dac712c88720f462630212bb80de3e8d9620952006", func := "sightbench/sightbenchlaw02.ImageTotals", spec := "imageTotals", unfollowed := true, recurses := true, plainKeys := false, apart := false }
def ImageTotalsSaid : Prop := imageTotalsRow.holds Try.pinned (OpenSpec.ofChange imageTotalsSpec)

/-- ITS FALSE NEIGHBOUR: 'it returns false'. Refute it at one input. -/
def imageTotalsWrong : ChangeSpec := { name := "imageTotals", fn := fun _ => fun
  | [d1, d2, d3, d4, d5] => { results := [.lit (.bool false)], args := [d1, d2, d3, d4, d5] }
  | _ => none }
def ImageTotalsWrongFalsely : Prop := imageTotalsRow.holds Try.pinned (OpenSpec.ofChange imageTotalsWrong)

/-- 'sightbenchlaw02.ImageTurned': WHATEVER THE INPUT: true; the input reads as it did. -/
def imageTurnedSpec : ChangeSpec := { name := "imageTurned", fn := fun _ => fun
  | [d1, d2] => { results := [.lit (.bool true)], args := [d1, d2] }
  | _ => none }
def imageTurnedRow : OpenClaim := { program := "ytghmjdmiaajbnaa", sum := "5d62cb05285e0bf92fcb91dac712c88720f462630212bb80de3e8d9620952006", func := "sightbench/sightbenchlaw02.ImageTurned", spec := "imageTurned", unfollowed := true, recurses := true, plainKeys := false, apart := false }
def ImageTurnedSaid : Prop := imageTurnedRow.holds Try.pinned (OpenSpec.ofChange imageTurnedSpec)

/-- ITS FALSE NEIGHBOUR: 'it returns false'. Refute it at one input. -/
def imageTurnedWrong : ChangeSpec := { name := "imageTurned", fn := fun _ => fun
  | [d1, d2] => { results := [.lit (.bool false)], args := [d1, d2] }
  | _ => none }
def ImageTurnedWrongFalsely : Prop := imageTurnedRow.holds Try.pinned (OpenSpec.ofChange imageTurnedWrong)

/-- 'sightbenchlaw02.ImageMoved': WHATEVER THE INPUT: true; the input reads as it did. -/
def imageMovedSpec : ChangeSpec := { name := "imageMoved", fn := fun _ => fun
  | [d1, d2, d3, d4] => { results := [.lit (.bool true)], args := [d1, d2, d3, d4] }
  | _ => none }
def imageMovedRow : OpenClaim := { program := "ytghmjdmiaajbnaa", sum := "5d62cb05285e0bf92fcb91dac712c88720f462630212bb80de3e8d9620952006", func := "sightbench/sightbenchlaw02.ImageMoved", spec := "imageMoved", unfollowed := true, recurses := true, plainKeys := false, apart := false }
def ImageMovedSaid : Prop := imageMovedRow.holds Try.pinned (OpenSpec.ofChange imageMovedSpec)

/-- ITS FALSE NEIGHBOUR: 'it returns false'. Refute it at one input. -/
def imageMovedWrong : ChangeSpec := { name := "imageMoved", fn := fun _ => fun
  | [d1, d2, d3, d4] => { results := [.lit (.bool false)], args := [d1, d2, d3, d4] }
  | _ => none }
def ImageMovedWrongFalsely : Prop := imageMovedRow.holds Try.pinned (OpenSpec.ofChange imageMovedWrong)

/-- 'sightbenchlaw02.ImageMonotone': WHATEVER THE INPUT: true; the input reads as it did. -/
def imageMonotoneSpec : ChangeSpec := { name := "imageMonotone", fn := fun _ => fun
  | [d1, d2, d3] => { results := [.lit (.bool true)], args := [d1, d2, d3] }
  | _ => none }
def imageMonotoneRow : OpenClaim := { program := "ytghmjdmiaajbnaa", sum := "5d62cb05285e0bf92fcb91dac712c88720f462630212bb80de3e8d9620952006", func := "sightbench/sightbenchlaw02.ImageMonotone", spec := "imageMonotone", unfollowed := true, recurses := true, plainKeys := false, apart := false }
def ImageMonotoneSaid : Prop := imageMonotoneRow.holds Try.pinned (OpenSpec.ofChange imageMonotoneSpec)

/-- ITS FALSE NEIGHBOUR: 'it returns false'. Refute it at one input. -/
def imageMonotoneWrong : ChangeSpec := { name := "imageMonotone", fn := fun _ => fun
  | [d1, d2, d3] => { results := [.lit (.bool false)], args := [d1, d2, d3] }
  | _ => none }
def ImageMonotoneWrongFalsely : Prop := imageMonotoneRow.holds Try.pinned (OpenSpec.ofChange imageMonotoneWrong)

/- THE SECOND FORM. 'bulk': how many values and letters a reading holds, each counted each time it is reached (what is shared counts as often as it is met; a slice's spare places count too). A statement '..UptoSaid' is the law's where the arguments, and the package variables that the reading takes, are together of bulk at most 1048576: NARROWER than '..Said'. Prove '..Said' where nothing that the law and all that it calls make is longer than what came in: it says more and counts as full. Else prove '..UptoSaid'. A law counts once. -/
mutual
def uptoBulk {H : Type} : DataW H → Nat
  | .lit (.string bytes) => bytes.length + 1
  | .lit _ => 1
  | .nil => 1
  | .ptr d => uptoBulk d + 1
  | .slice elems spare => uptoBulkAll elems + uptoBulkAll spare + 1
  | .agg parts => uptoBulkAll parts + 1
  | .iface _ d => uptoBulk d + 1
  | .map entries => uptoBulkEntries entries + 1
  | .held _ => 1
def uptoBulkAll {H : Type} : List (DataW H) → Nat
  | [] => 0
  | d :: r => uptoBulk d + uptoBulkAll r
def uptoBulkEntries {H : Type} : List (Lit × DataW H) → Nat
  | [] => 0
  | x :: r => uptoBulkEntry x + uptoBulkEntries r
def uptoBulkEntry {H : Type} : Lit × DataW H → Nat
  | (.string bytes, d) => bytes.length + uptoBulk d + 1
  | (_, d) => uptoBulk d + 1
 end
def uptoSmall : (H : Type) → List (DataW H) → Bool := fun _ ds => decide (uptoBulkAll ds ≤ 1048576)
def OpenSpec.upto (s : _root_.Go.ChangeSpec) : _root_.Go.OpenSpec := { _root_.Go.OpenSpec.ofChange s with cond := some uptoSmall }

/-- 'sightbenchlaw02.ImageExamples', WHERE WHAT IT READS IS OF BULK AT MOST 1048576: true; the input reads as it did. -/
def imageExamplesUptoRow : OpenClaim := { program := "ytghmjdmiaajbnaa", sum := "5d62cb05285e0bf92fcb91dac712c88720f462630212bb80de3e8d9620952006", func := "sightbench/sightbenchlaw02.ImageExamples", spec := "imageExamples", unfollowed := true, recurses := true, plainKeys := false, apart := false, narrowed := true }
def ImageExamplesUptoSaid : Prop := imageExamplesUptoRow.holds Try.pinned (OpenSpec.upto imageExamplesSpec)

/-- 'sightbenchlaw02.ImageFields', WHERE WHAT IT READS IS OF BULK AT MOST 1048576: true; the input reads as it did. -/
def imageFieldsUptoRow : OpenClaim := { program := "ytghmjdmiaajbnaa", sum := "5d62cb05285e0bf92fcb91dac712c88720f462630212bb80de3e8d9620952006", func := "sightbench/sightbenchlaw02.ImageFields", spec := "imageFields", unfollowed := true, recurses := true, plainKeys := false, apart := false, narrowed := true }
def ImageFieldsUptoSaid : Prop := imageFieldsUptoRow.holds Try.pinned (OpenSpec.upto imageFieldsSpec)

/-- 'sightbenchlaw02.ImageAdjoint', WHERE WHAT IT READS IS OF BULK AT MOST 1048576: true; the input reads as it did. -/
def imageAdjointUptoRow : OpenClaim := { program := "ytghmjdmiaajbnaa", sum := "5d62cb05285e0bf92fcb91dac712c88720f462630212bb80de3e8d9620952006", func := "sightbench/sightbenchlaw02.ImageAdjoint", spec := "imageAdjoint", unfollowed := true, recurses := true, plainKeys := false, apart := false, narrowed := true }
def ImageAdjointUptoSaid : Prop := imageAdjointUptoRow.holds Try.pinned (OpenSpec.upto imageAdjointSpec)

/-- 'sightbenchlaw02.ImageOpened', WHERE WHAT IT READS IS OF BULK AT MOST 1048576: true; the input reads as it did. -/
def imageOpenedUptoRow : OpenClaim := { program := "ytghmjdmiaajbnaa", sum := "5d62cb05285e0bf92fcb91dac712c88720f462630212bb80de3e8d9620952006", func := "sightbench/sightbenchlaw02.ImageOpened", spec := "imageOpened", unfollowed := true, recurses := true, plainKeys := false, apart := false, narrowed := true }
def ImageOpenedUptoSaid : Prop := imageOpenedUptoRow.holds Try.pinned (OpenSpec.upto imageOpenedSpec)

/-- 'sightbenchlaw02.ImageLattice', WHERE WHAT IT READS IS OF BULK AT MOST 1048576: true; the input reads as it did. -/
def imageLatticeUptoRow : OpenClaim := { program := "ytghmjdmiaajbnaa", sum := "5d62cb05285e0bf92fcb91dac712c88720f462630212bb80de3e8d9620952006", func := "sightbench/sightbenchlaw02.ImageLattice", spec := "imageLattice", unfollowed := true, recurses := true, plainKeys := false, apart := false, narrowed := true }
def ImageLatticeUptoSaid : Prop := imageLatticeUptoRow.holds Try.pinned (OpenSpec.upto imageLatticeSpec)

/-- 'sightbenchlaw02.ImageLinear', WHERE WHAT IT READS IS OF BULK AT MOST 1048576: true; the input reads as it did. -/
def imageLinearUptoRow : OpenClaim := { program := "ytghmjdmiaajbnaa", sum := "5d62cb05285e0bf92fcb91dac712c88720f462630212bb80de3e8d9620952006", func := "sightbench/sightbenchlaw02.ImageLinear", spec := "imageLinear", unfollowed := true, recurses := true, plainKeys := false, apart := false, narrowed := true }
def ImageLinearUptoSaid : Prop := imageLinearUptoRow.holds Try.pinned (OpenSpec.upto imageLinearSpec)

/-- 'sightbenchlaw02.ImageComposed', WHERE WHAT IT READS IS OF BULK AT MOST 1048576: true; the input reads as it did. -/
def imageComposedUptoRow : OpenClaim := { program := "ytghmjdmiaajbnaa", sum := "5d62cb05285e0bf92fcb91dac712c88720f462630212bb80de3e8d9620952006", func := "sightbench/sightbenchlaw02.ImageComposed", spec := "imageComposed", unfollowed := true, recurses := true, plainKeys := false, apart := false, narrowed := true }
def ImageComposedUptoSaid : Prop := imageComposedUptoRow.holds Try.pinned (OpenSpec.upto imageComposedSpec)

/-- 'sightbenchlaw02.ImageNearest', WHERE WHAT IT READS IS OF BULK AT MOST 1048576: true; the input reads as it did. -/
def imageNearestUptoRow : OpenClaim := { program := "ytghmjdmiaajbnaa", sum := "5d62cb05285e0bf92fcb91dac712c88720f462630212bb80de3e8d9620952006", func := "sightbench/sightbenchlaw02.ImageNearest", spec := "imageNearest", unfollowed := true, recurses := true, plainKeys := false, apart := false, narrowed := true }
def ImageNearestUptoSaid : Prop := imageNearestUptoRow.holds Try.pinned (OpenSpec.upto imageNearestSpec)

/-- 'sightbenchlaw02.ImageTotals', WHERE WHAT IT READS IS OF BULK AT MOST 1048576: true; the input reads as it did. -/
def imageTotalsUptoRow : OpenClaim := { program := "ytghmjdmiaajbnaa", sum := "5d62cb05285e0bf92fcb91dac712c88720f462630212bb80de3e8d9620952006", func := "sightbench/sightbenchlaw02.ImageTotals", spec := "imageTotals", unfollowed := true, recurses := true, plainKeys := false, apart := false, narrowed := true }
def ImageTotalsUptoSaid : Prop := imageTotalsUptoRow.holds Try.pinned (OpenSpec.upto imageTotalsSpec)

/-- 'sightbenchlaw02.ImageTurned', WHERE WHAT IT READS IS OF BULK AT MOST 1048576: true; the input reads as it did. -/
def imageTurnedUptoRow : OpenClaim := { program := "ytghmjdmiaajbnaa", sum := "5d62cb05285e0bf92fcb91dac712c88720f462630212bb80de3e8d9620952006", func := "sightbench/sightbenchlaw02.ImageTurned", spec := "imageTurned", unfollowed := true, recurses := true, plainKeys := false, apart := false, narrowed := true }
def ImageTurnedUptoSaid : Prop := imageTurnedUptoRow.holds Try.pinned (OpenSpec.upto imageTurnedSpec)

/-- 'sightbenchlaw02.ImageMoved', WHERE WHAT IT READS IS OF BULK AT MOST 1048576: true; the input reads as it did. -/
def imageMovedUptoRow : OpenClaim := { program := "ytghmjdmiaajbnaa", sum := "5d62cb05285e0bf92fcb91dac712c88720f462630212bb80de3e8d9620952006", func := "sightbench/sightbenchlaw02.ImageMoved", spec := "imageMoved", unfollowed := true, recurses := true, plainKeys := false, apart := false, narrowed := true }
def ImageMovedUptoSaid : Prop := imageMovedUptoRow.holds Try.pinned (OpenSpec.upto imageMovedSpec)

/-- 'sightbenchlaw02.ImageMonotone', WHERE WHAT IT READS IS OF BULK AT MOST 1048576: true; the input reads as it did. -/
def imageMonotoneUptoRow : OpenClaim := { program := "ytghmjdmiaajbnaa", sum := "5d62cb05285e0bf92fcb91dac712c88720f462630212bb80de3e8d9620952006", func := "sightbench/sightbenchlaw02.ImageMonotone", spec := "imageMonotone", unfollowed := true, recurses := true, plainKeys := false, apart := false, narrowed := true }
def ImageMonotoneUptoSaid : Prop := imageMonotoneUptoRow.holds Try.pinned (OpenSpec.upto imageMonotoneSpec)

end Rows
end Go.Proofs.Ytghmjdmiaajbnaa
