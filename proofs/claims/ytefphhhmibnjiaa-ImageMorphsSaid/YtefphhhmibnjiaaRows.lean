/-
  No cell of these rows narrows 'for every input' (looked for: loops, veiled, ifaces, maps, wideKeys, modest, calm, conditions, laid).
  DERIVED. THE GIVEN ROWS OF THIS SEAT. 12 by the template 'for every input the law returns true; each argument reads behind the call as it read before'; 0 by the template 'total and deterministic' (their statements: YtefphhhmibnjiaaTotals.lean).
  GIVEN WITH THE SEED: the statements are not yours to turn. If you find one false, say at which input.
  Laid BY PROGRAM, IN A SANDBOX (cutbox-rows.mjs): the forced cells as the released guide's own fill.sh prints them over the translation c9ca15bbd69f8615… (all of the seat's roots in one cut). By AI agents, Wed Nov 11 2026. No macro, syntax, notation, axiom, sorry.
-/
import Derived.Test.YtefphhhmibnjiaaChecked
import GoSem.Claim
import GoSem.ClaimJoined
import GoSem.ClaimMapViews
import Derived.JoinedTies
import Derived.KernelRfl
namespace Go.Proofs.Ytefphhhmibnjiaa
/- THE CELL 'sum', in the pinned program and in every row, IS THE sha256 OF THE DUMP (.gsa) THAT YtefphhhmibnjiaaProg.lean LOADS. Nothing in Lean hashes anything: it is a label: what it is worth is what the hold of that sum in a sandbox is worth. -/
noncomputable def Try.pinned : Pinned := { name := "ytefphhhmibnjiaa", sum := "c9ca15bbd69f8615e684f1cef2890e7741349283c9f73797937a34a16c425e86", checked := Try.checked }
namespace Rows
def none {H : Type} : Left H := { results := [], args := [] }

/-- 'sightbenchlaw02.ImageExamples': WHATEVER THE INPUT: true; the input reads as it did. -/
def imageExamplesSpec : ChangeSpec := { name := "imageExamples", fn := fun _ => fun
  | [] => { results := [.lit (.bool true)], args := [] }
  | _ => none }
def imageExamplesRow : OpenClaim := { program := "ytefphhhmibnjiaa", sum := "c9ca15bbd69f8615e684f1cef2890e7741349283c9f73797937a34a16c425e86", func := "sightbench/sightbenchlaw02.ImageExamples", spec := "imageExamples", unfollowed := true, recurses := true, plainKeys := false, apart := false }
def ImageExamplesSaid : Prop := imageExamplesRow.holds Try.pinned (OpenSpec.ofChange imageExamplesSpec)

/-- ITS FALSE NEIGHBOUR: 'it returns false'. Refute it at one input. -/
def imageExamplesWrong : ChangeSpec := { name := "imageExamples", fn := fun _ => fun
  | [] => { results := [.lit (.bool false)], args := [] }
  | _ => none }
def ImageExamplesWrongFalsely : Prop := imageExamplesRow.holds Try.pinned (OpenSpec.ofChange imageExamplesWrong)

/-- 'sightbenchlaw02.ImagePoints': WHATEVER THE INPUT: true; the input reads as it did. -/
def imagePointsSpec : ChangeSpec := { name := "imagePoints", fn := fun _ => fun
  | [d1, d2, d3, d4] => { results := [.lit (.bool true)], args := [d1, d2, d3, d4] }
  | _ => none }
def imagePointsRow : OpenClaim := { program := "ytefphhhmibnjiaa", sum := "c9ca15bbd69f8615e684f1cef2890e7741349283c9f73797937a34a16c425e86", func := "sightbench/sightbenchlaw02.ImagePoints", spec := "imagePoints", unfollowed := true, recurses := true, plainKeys := false, apart := false }
def ImagePointsSaid : Prop := imagePointsRow.holds Try.pinned (OpenSpec.ofChange imagePointsSpec)

/-- ITS FALSE NEIGHBOUR: 'it returns false'. Refute it at one input. -/
def imagePointsWrong : ChangeSpec := { name := "imagePoints", fn := fun _ => fun
  | [d1, d2, d3, d4] => { results := [.lit (.bool false)], args := [d1, d2, d3, d4] }
  | _ => none }
def ImagePointsWrongFalsely : Prop := imagePointsRow.holds Try.pinned (OpenSpec.ofChange imagePointsWrong)

/-- 'sightbenchlaw02.ImageConvolves': WHATEVER THE INPUT: true; the input reads as it did. -/
def imageConvolvesSpec : ChangeSpec := { name := "imageConvolves", fn := fun _ => fun
  | [d1, d2, d3, d4] => { results := [.lit (.bool true)], args := [d1, d2, d3, d4] }
  | _ => none }
def imageConvolvesRow : OpenClaim := { program := "ytefphhhmibnjiaa", sum := "c9ca15bbd69f8615e684f1cef2890e7741349283c9f73797937a34a16c425e86", func := "sightbench/sightbenchlaw02.ImageConvolves", spec := "imageConvolves", unfollowed := true, recurses := true, plainKeys := false, apart := false }
def ImageConvolvesSaid : Prop := imageConvolvesRow.holds Try.pinned (OpenSpec.ofChange imageConvolvesSpec)

/-- ITS FALSE NEIGHBOUR: 'it returns false'. Refute it at one input. -/
def imageConvolvesWrong : ChangeSpec := { name := "imageConvolves", fn := fun _ => fun
  | [d1, d2, d3, d4] => { results := [.lit (.bool false)], args := [d1, d2, d3, d4] }
  | _ => none }
def ImageConvolvesWrongFalsely : Prop := imageConvolvesRow.holds Try.pinned (OpenSpec.ofChange imageConvolvesWrong)

/-- 'sightbenchlaw02.ImageMorphs': WHATEVER THE INPUT: true; the input reads as it did. -/
def imageMorphsSpec : ChangeSpec := { name := "imageMorphs", fn := fun _ => fun
  | [d1, d2] => { results := [.lit (.bool true)], args := [d1, d2] }
  | _ => none }
def imageMorphsRow : OpenClaim := { program := "ytefphhhmibnjiaa", sum := "c9ca15bbd69f8615e684f1cef2890e7741349283c9f73797937a34a16c425e86", func := "sightbench/sightbenchlaw02.ImageMorphs", spec := "imageMorphs", unfollowed := true, recurses := true, plainKeys := false, apart := false }
def ImageMorphsSaid : Prop := imageMorphsRow.holds Try.pinned (OpenSpec.ofChange imageMorphsSpec)

/-- ITS FALSE NEIGHBOUR: 'it returns false'. Refute it at one input. -/
def imageMorphsWrong : ChangeSpec := { name := "imageMorphs", fn := fun _ => fun
  | [d1, d2] => { results := [.lit (.bool false)], args := [d1, d2] }
  | _ => none }
def ImageMorphsWrongFalsely : Prop := imageMorphsRow.holds Try.pinned (OpenSpec.ofChange imageMorphsWrong)

/-- 'sightbenchlaw02.ImageFields': WHATEVER THE INPUT: true; the input reads as it did. -/
def imageFieldsSpec : ChangeSpec := { name := "imageFields", fn := fun _ => fun
  | [d1, d2] => { results := [.lit (.bool true)], args := [d1, d2] }
  | _ => none }
def imageFieldsRow : OpenClaim := { program := "ytefphhhmibnjiaa", sum := "c9ca15bbd69f8615e684f1cef2890e7741349283c9f73797937a34a16c425e86", func := "sightbench/sightbenchlaw02.ImageFields", spec := "imageFields", unfollowed := true, recurses := true, plainKeys := false, apart := false }
def ImageFieldsSaid : Prop := imageFieldsRow.holds Try.pinned (OpenSpec.ofChange imageFieldsSpec)

/-- ITS FALSE NEIGHBOUR: 'it returns false'. Refute it at one input. -/
def imageFieldsWrong : ChangeSpec := { name := "imageFields", fn := fun _ => fun
  | [d1, d2] => { results := [.lit (.bool false)], args := [d1, d2] }
  | _ => none }
def ImageFieldsWrongFalsely : Prop := imageFieldsRow.holds Try.pinned (OpenSpec.ofChange imageFieldsWrong)

/-- 'sightbenchlaw02.ImageSums': WHATEVER THE INPUT: true; the input reads as it did. -/
def imageSumsSpec : ChangeSpec := { name := "imageSums", fn := fun _ => fun
  | [d1, d2, d3, d4, d5] => { results := [.lit (.bool true)], args := [d1, d2, d3, d4, d5] }
  | _ => none }
def imageSumsRow : OpenClaim := { program := "ytefphhhmibnjiaa", sum := "c9ca15bbd69f8615e684f1cef2890e7741349283c9f73797937a34a16c425e86", func := "sightbench/sightbenchlaw02.ImageSums", spec := "imageSums", unfollowed := true, recurses := true, plainKeys := false, apart := false }
def ImageSumsSaid : Prop := imageSumsRow.holds Try.pinned (OpenSpec.ofChange imageSumsSpec)

/-- ITS FALSE NEIGHBOUR: 'it returns false'. Refute it at one input. -/
def imageSumsWrong : ChangeSpec := { name := "imageSums", fn := fun _ => fun
  | [d1, d2, d3, d4, d5] => { results := [.lit (.bool false)], args := [d1, d2, d3, d4, d5] }
  | _ => none }
def ImageSumsWrongFalsely : Prop := imageSumsRow.holds Try.pinned (OpenSpec.ofChange imageSumsWrong)

/-- 'sightbenchlaw02.ImageWarps': WHATEVER THE INPUT: true; the input reads as it did. -/
def imageWarpsSpec : ChangeSpec := { name := "imageWarps", fn := fun _ => fun
  | [d1, d2, d3, d4, d5] => { results := [.lit (.bool true)], args := [d1, d2, d3, d4, d5] }
  | _ => none }
def imageWarpsRow : OpenClaim := { program := "ytefphhhmibnjiaa", sum := "c9ca15bbd69f8615e684f1cef2890e7741349283c9f73797937a34a16c425e86", func := "sightbench/sightbenchlaw02.ImageWarps", spec := "imageWarps", unfollowed := true, recurses := true, plainKeys := false, apart := false }
def ImageWarpsSaid : Prop := imageWarpsRow.holds Try.pinned (OpenSpec.ofChange imageWarpsSpec)

/-- ITS FALSE NEIGHBOUR: 'it returns false'. Refute it at one input. -/
def imageWarpsWrong : ChangeSpec := { name := "imageWarps", fn := fun _ => fun
  | [d1, d2, d3, d4, d5] => { results := [.lit (.bool false)], args := [d1, d2, d3, d4, d5] }
  | _ => none }
def ImageWarpsWrongFalsely : Prop := imageWarpsRow.holds Try.pinned (OpenSpec.ofChange imageWarpsWrong)

/-- 'sightbenchlaw02.ImageAdjoint': WHATEVER THE INPUT: true; the input reads as it did. -/
def imageAdjointSpec : ChangeSpec := { name := "imageAdjoint", fn := fun _ => fun
  | [d1, d2, d3] => { results := [.lit (.bool true)], args := [d1, d2, d3] }
  | _ => none }
def imageAdjointRow : OpenClaim := { program := "ytefphhhmibnjiaa", sum := "c9ca15bbd69f8615e684f1cef2890e7741349283c9f73797937a34a16c425e86", func := "sightbench/sightbenchlaw02.ImageAdjoint", spec := "imageAdjoint", unfollowed := true, recurses := true, plainKeys := false, apart := false }
def ImageAdjointSaid : Prop := imageAdjointRow.holds Try.pinned (OpenSpec.ofChange imageAdjointSpec)

/-- ITS FALSE NEIGHBOUR: 'it returns false'. Refute it at one input. -/
def imageAdjointWrong : ChangeSpec := { name := "imageAdjoint", fn := fun _ => fun
  | [d1, d2, d3] => { results := [.lit (.bool false)], args := [d1, d2, d3] }
  | _ => none }
def ImageAdjointWrongFalsely : Prop := imageAdjointRow.holds Try.pinned (OpenSpec.ofChange imageAdjointWrong)

/-- 'sightbenchlaw02.ImageOpened': WHATEVER THE INPUT: true; the input reads as it did. -/
def imageOpenedSpec : ChangeSpec := { name := "imageOpened", fn := fun _ => fun
  | [d1, d2] => { results := [.lit (.bool true)], args := [d1, d2] }
  | _ => none }
def imageOpenedRow : OpenClaim := { program := "ytefphhhmibnjiaa", sum := "c9ca15bbd69f8615e684f1cef2890e7741349283c9f73797937a34a16c425e86", func := "sightbench/sightbenchlaw02.ImageOpened", spec := "imageOpened", unfollowed := true, recurses := true, plainKeys := false, apart := false }
def ImageOpenedSaid : Prop := imageOpenedRow.holds Try.pinned (OpenSpec.ofChange imageOpenedSpec)

/-- ITS FALSE NEIGHBOUR: 'it returns false'. Refute it at one input. -/
def imageOpenedWrong : ChangeSpec := { name := "imageOpened", fn := fun _ => fun
  | [d1, d2] => { results := [.lit (.bool false)], args := [d1, d2] }
  | _ => none }
def ImageOpenedWrongFalsely : Prop := imageOpenedRow.holds Try.pinned (OpenSpec.ofChange imageOpenedWrong)

/-- 'sightbenchlaw02.ImageLattice': WHATEVER THE INPUT: true; the input reads as it did. -/
def imageLatticeSpec : ChangeSpec := { name := "imageLattice", fn := fun _ => fun
  | [d1, d2, d3] => { results := [.lit (.bool true)], args := [d1, d2, d3] }
  | _ => none }
def imageLatticeRow : OpenClaim := { program := "ytefphhhmibnjiaa", sum := "c9ca15bbd69f8615e684f1cef2890e7741349283c9f73797937a34a16c425e86", func := "sightbench/sightbenchlaw02.ImageLattice", spec := "imageLattice", unfollowed := true, recurses := true, plainKeys := false, apart := false }
def ImageLatticeSaid : Prop := imageLatticeRow.holds Try.pinned (OpenSpec.ofChange imageLatticeSpec)

/-- ITS FALSE NEIGHBOUR: 'it returns false'. Refute it at one input. -/
def imageLatticeWrong : ChangeSpec := { name := "imageLattice", fn := fun _ => fun
  | [d1, d2, d3] => { results := [.lit (.bool false)], args := [d1, d2, d3] }
  | _ => none }
def ImageLatticeWrongFalsely : Prop := imageLatticeRow.holds Try.pinned (OpenSpec.ofChange imageLatticeWrong)

/-- 'sightbenchlaw02.ImageLinear': WHATEVER THE INPUT: true; the input reads as it did. -/
def imageLinearSpec : ChangeSpec := { name := "imageLinear", fn := fun _ => fun
  | [d1, d2, d3, d4] => { results := [.lit (.bool true)], args := [d1, d2, d3, d4] }
  | _ => none }
def imageLinearRow : OpenClaim := { program := "ytefphhhmibnjiaa", sum := "c9ca15bbd69f8615e684f1cef2890e7741349283c9f73797937a34a16c425e86", func := "sightbench/sightbenchlaw02.ImageLinear", spec := "imageLinear", unfollowed := true, recurses := true, plainKeys := false, apart := false }
def ImageLinearSaid : Prop := imageLinearRow.holds Try.pinned (OpenSpec.ofChange imageLinearSpec)

/-- ITS FALSE NEIGHBOUR: 'it returns false'. Refute it at one input. -/
def imageLinearWrong : ChangeSpec := { name := "imageLinear", fn := fun _ => fun
  | [d1, d2, d3, d4] => { results := [.lit (.bool false)], args := [d1, d2, d3, d4] }
  | _ => none }
def ImageLinearWrongFalsely : Prop := imageLinearRow.holds Try.pinned (OpenSpec.ofChange imageLinearWrong)

/-- 'sightbenchlaw02.ImageComposed': WHATEVER THE INPUT: true; the input reads as it did. -/
def imageComposedSpec : ChangeSpec := { name := "imageComposed", fn := fun _ => fun
  | [d1, d2, d3] => { results := [.lit (.bool true)], args := [d1, d2, d3] }
  | _ => none }
def imageComposedRow : OpenClaim := { program := "ytefphhhmibnjiaa", sum := "c9ca15bbd69f8615e684f1cef2890e7741349283c9f73797937a34a16c425e86", func := "sightbench/sightbenchlaw02.ImageComposed", spec := "imageComposed", unfollowed := true, recurses := true, plainKeys := false, apart := false }
def ImageComposedSaid : Prop := imageComposedRow.holds Try.pinned (OpenSpec.ofChange imageComposedSpec)

/-- ITS FALSE NEIGHBOUR: 'it returns false'. Refute it at one input. -/
def imageComposedWrong : ChangeSpec := { name := "imageComposed", fn := fun _ => fun
  | [d1, d2, d3] => { results := [.lit (.bool false)], args := [d1, d2, d3] }
  | _ => none }
def ImageComposedWrongFalsely : Prop := imageComposedRow.holds Try.pinned (OpenSpec.ofChange imageComposedWrong)

/- THE SECOND FORM. 'bulk': how many values and letters a reading holds, each counted each time it is reached (what is shared counts as often as it is met; a slice's spare places count too). A statement '..UptoSaid' is the law's where the arguments, and the package variables that the reading takes, are together of bulk at most 1048576: NARROWER than '..Said'. Prove '..Said' where nothing that the law and all that it calls make is longer than what came in: it says more and counts as full. Else prove '..UptoSaid'. A law counts once. -/
mutual
def uptoBulk {H : Type} : DataW H → Nat
  | .lit (.string bytes) => bytes.length + 1
  | .lit _ => 1
  | .nil => 1
  | .ptr d => uptoBulk d + 1
  | .slice elems spare => uptoBulkAll elems + uptoBulkAll spare + 1
  | .agg parts => uptoBulkAll parts + 1
  | .iface _ d => uptoBulk d + 1
  | .map entries => uptoBulkEntries entries + 1
  | .held _ => 1
def uptoBulkAll {H : Type} : List (DataW H) → Nat
  | [] => 0
  | d :: r => uptoBulk d + uptoBulkAll r
def uptoBulkEntries {H : Type} : List (Lit × DataW H) → Nat
  | [] => 0
  | x :: r => uptoBulkEntry x + uptoBulkEntries r
def uptoBulkEntry {H : Type} : Lit × DataW H → Nat
  | (.string bytes, d) => bytes.length + uptoBulk d + 1
  | (_, d) => uptoBulk d + 1
 end
def uptoSmall : (H : Type) → List (DataW H) → Bool := fun _ ds => decide (uptoBulkAll ds ≤ 1048576)
def OpenSpec.upto (s : _root_.Go.ChangeSpec) : _root_.Go.OpenSpec := { _root_.Go.OpenSpec.ofChange s with cond := some uptoSmall }

/-- 'sightbenchlaw02.ImageExamples', WHERE WHAT IT READS IS OF BULK AT MOST 1048576: true; the input reads as it did. -/
def imageExamplesUptoRow : OpenClaim := { program := "ytefphhhmibnjiaa", sum := "c9ca15bbd69f8615e684f1cef2890e7741349283c9f73797937a34a16c425e86", func := "sightbench/sightbenchlaw02.ImageExamples", spec := "imageExamples", unfollowed := true, recurses := true, plainKeys := false, apart := false, narrowed := true }
def ImageExamplesUptoSaid : Prop := imageExamplesUptoRow.holds Try.pinned (OpenSpec.upto imageExamplesSpec)

/-- 'sightbenchlaw02.ImagePoints', WHERE WHAT IT READS IS OF BULK AT MOST 1048576: true; the input reads as it did. -/
def imagePointsUptoRow : OpenClaim := { program := "ytefphhhmibnjiaa", sum := "c9ca15bbd69f8615e684f1cef2890e7741349283c9f73797937a34a16c425e86", func := "sightbench/sightbenchlaw02.ImagePoints", spec := "imagePoints", unfollowed := true, recurses := true, plainKeys := false, apart := false, narrowed := true }
def ImagePointsUptoSaid : Prop := imagePointsUptoRow.holds Try.pinned (OpenSpec.upto imagePointsSpec)

/-- 'sightbenchlaw02.ImageConvolves', WHERE WHAT IT READS IS OF BULK AT MOST 1048576: true; the input reads as it did. -/
def imageConvolvesUptoRow : OpenClaim := { program := "ytefphhhmibnjiaa", sum := "c9ca15bbd69f8615e684f1cef2890e7741349283c9f73797937a34a16c425e86", func := "sightbench/sightbenchlaw02.ImageConvolves", spec := "imageConvolves", unfollowed := true, recurses := true, plainKeys := false, apart := false, narrowed := true }
def ImageConvolvesUptoSaid : Prop := imageConvolvesUptoRow.holds Try.pinned (OpenSpec.upto imageConvolvesSpec)

/-- 'sightbenchlaw02.ImageMorphs', WHERE WHAT IT READS IS OF BULK AT MOST 1048576: true; the input reads as it did. -/
def imageMorphsUptoRow : OpenClaim := { program := "ytefphhhmibnjiaa", sum := "c9ca15bbd69f8615e684f1cef2890e7741349283c9f73797937a34a16c425e86", func := "sightbench/sightbenchlaw02.ImageMorphs", spec := "imageMorphs", unfollowed := true, recurses := true, plainKeys := false, apart := false, narrowed := true }
def ImageMorphsUptoSaid : Prop := imageMorphsUptoRow.holds Try.pinned (OpenSpec.upto imageMorphsSpec)

/-- 'sightbenchlaw02.ImageFields', WHERE WHAT IT READS IS OF BULK AT MOST 1048576: true; the input reads as it did. -/
def imageFieldsUptoRow : OpenClaim := { program := "ytefphhhmibnjiaa", sum := "c9ca15bbd69f8615e684f1cef2890e7741349283c9f73797937a34a16c425e86", func := "sightbench/sightbenchlaw02.ImageFields", spec := "imageFields", unfollowed := true, recurses := true, plainKeys := false, apart := false, narrowed := true }
def ImageFieldsUptoSaid : Prop := imageFieldsUptoRow.holds Try.pinned (OpenSpec.upto imageFieldsSpec)

/-- 'sightbenchlaw02.ImageSums', WHERE WHAT IT READS IS OF BULK AT MOST 1048576: true; the input reads as it did. -/
def imageSumsUptoRow : OpenClaim := { program := "ytefphhhmibnjiaa", sum := "c9ca15bbd69f8615e684f1cef2890e7741349283c9f73797937a34a16c425e86", func := "sightbench/sightbenchlaw02.ImageSums", spec := "imageSums", unfollowed := true, recurses := true, plainKeys := false, apart := false, narrowed := true }
def ImageSumsUptoSaid : Prop := imageSumsUptoRow.holds Try.pinned (OpenSpec.upto imageSumsSpec)

/-- 'sightbenchlaw02.ImageWarps', WHERE WHAT IT READS IS OF BULK AT MOST 1048576: true; the input reads as it did. -/
def imageWarpsUptoRow : OpenClaim := { program := "ytefphhhmibnjiaa", sum := "c9ca15bbd69f8615e684f1cef2890e7741349283c9f73797937a34a16c425e86", func := "sightbench/sightbenchlaw02.ImageWarps", spec := "imageWarps", unfollowed := true, recurses := true, plainKeys := false, apart := false, narrowed := true }
def ImageWarpsUptoSaid : Prop := imageWarpsUptoRow.holds Try.pinned (OpenSpec.upto imageWarpsSpec)

/-- 'sightbenchlaw02.ImageAdjoint', WHERE WHAT IT READS IS OF BULK AT MOST 1048576: true; the input reads as it did. -/
def imageAdjointUptoRow : OpenClaim := { program := "ytefphhhmibnjiaa", sum := "c9ca15bbd69f8615e684f1cef2890e7741349283c9f73797937a34a16c425e86", func := "sightbench/sightbenchlaw02.ImageAdjoint", spec := "imageAdjoint", unfollowed := true, recurses := true, plainKeys := false, apart := false, narrowed := true }
def ImageAdjointUptoSaid : Prop := imageAdjointUptoRow.holds Try.pinned (OpenSpec.upto imageAdjointSpec)

/-- 'sightbenchlaw02.ImageOpened', WHERE WHAT IT READS IS OF BULK AT MOST 1048576: true; the input reads as it did. -/
def imageOpenedUptoRow : OpenClaim := { program := "ytefphhhmibnjiaa", sum := "c9ca15bbd69f8615e684f1cef2890e7741349283c9f73797937a34a16c425e86", func := "sightbench/sightbenchlaw02.ImageOpened", spec := "imageOpened", unfollowed := true, recurses := true, plainKeys := false, apart := false, narrowed := true }
def ImageOpenedUptoSaid : Prop := imageOpenedUptoRow.holds Try.pinned (OpenSpec.upto imageOpenedSpec)

/-- 'sightbenchlaw02.ImageLattice', WHERE WHAT IT READS IS OF BULK AT MOST 1048576: true; the input reads as it did. -/
def imageLatticeUptoRow : OpenClaim := { program := "ytefphhhmibnjiaa", sum := "c9ca15bbd69f8615e684f1cef2890e7741349283c9f73797937a34a16c425e86", func := "sightbench/sightbenchlaw02.ImageLattice", spec := "imageLattice", unfollowed := true, recurses := true, plainKeys := false, apart := false, narrowed := true }
def ImageLatticeUptoSaid : Prop := imageLatticeUptoRow.holds Try.pinned (OpenSpec.upto imageLatticeSpec)

/-- 'sightbenchlaw02.ImageLinear', WHERE WHAT IT READS IS OF BULK AT MOST 1048576: true; the input reads as it did. -/
def imageLinearUptoRow : OpenClaim := { program := "ytefphhhmibnjiaa", sum := "c9ca15bbd69f8615e684f1cef2890e7741349283c9f73797937a34a16c425e86", func := "sightbench/sightbenchlaw02.ImageLinear", spec := "imageLinear", unfollowed := true, recurses := true, plainKeys := false, apart := false, narrowed := true }
def ImageLinearUptoSaid : Prop := imageLinearUptoRow.holds Try.pinned (OpenSpec.upto imageLinearSpec)

/-- 'sightbenchlaw02.ImageComposed', WHERE WHAT IT READS IS OF BULK AT MOST 1048576: true; the input reads as it did. -/
def imageComposedUptoRow : OpenClaim := { program := "ytefphhhmibnjiaa", sum := "c9ca15bbd69f8615e684f1cef2890e7741349283c9f73797937a34a16c425e86", func := "sightbench/sightbenchlaw02.ImageComposed", spec := "imageComposed", unfollowed := true, recurses := true, plainKeys := false, apart := false, narrowed := true }
def ImageComposedUptoSaid : Prop := imageComposedUptoRow.holds Try.pinned (OpenSpec.upto imageComposedSpec)

end Rows
end Go.Proofs.Ytefphhhmibnjiaa
