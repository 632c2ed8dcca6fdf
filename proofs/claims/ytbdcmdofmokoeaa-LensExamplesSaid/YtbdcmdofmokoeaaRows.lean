/-
  No cell of these rows narrows 'for every input' (looked for: loops, veiled, ifaces, maps, wideKeys, modest, calm, conditions, laid).
  DERIVED. THE GIVEN ROWS OF THIS SEAT. 12 by the template 'for every input the law returns true; each argument reads behind the call as it read before'; 0 by the template 'total and deterministic' (their statements: YtbdcmdofmokoeaaTotals.lean).
  GIVEN WITH THE SEED: the statements are not yours to turn. If you find one false, say at which input.
  Laid BY PROGRAM, IN A SANDBOX (cutbox-rows.mjs): the forced cells as the released guide's own fill.sh prints them over the translation 2be6b65a4fdfe183… (all of the seat's roots in one cut). By AI agents, Wed Nov 11 2026. No macro, syntax, notation, axiom, sorry.
-/
import Derived.Test.YtbdcmdofmokoeaaChecked
import GoSem.Claim
import GoSem.ClaimJoined
import GoSem.ClaimMapViews
import Derived.JoinedTies
import Derived.KernelRfl
namespace Go.Proofs.Ytbdcmdofmokoeaa
/- THE CELL 'sum', in the pinned program and in every row, IS THE sha256 OF THE DUMP (.gsa) THAT YtbdcmdofmokoeaaProg.lean LOADS. Nothing in Lean hashes anything: it is a label: what it is worth is what the hold of that sum in a sandbox is worth. -/
noncomputable def Try.pinned : Pinned := { name := "ytbdcmdofmokoeaa", sum := "2be6b65a4fdfe18330113e6f72a5a220565f9339471bc9be89100d6f26660e04", checked := Try.checked }
namespace Rows
def none {H : Type} : Left H := { results := [], args := [] }

/-- 'sightbenchlaw04.LensExamples': WHATEVER THE INPUT: true; the input reads as it did. -/
def lensExamplesSpec : ChangeSpec := { name := "lensExamples", fn := fun _ => fun
  | [] => { results := [.lit (.bool true)], args := [] }
  | _ => none }
def lensExamplesRow : OpenClaim := { program := "ytbdcmdofmokoeaa", sum := "2be6b65a4fdfe18330113e6f72a5a220565f9339471bc9be89100d6f26660e04", func := "sightbench/sightbenchlaw04.LensExamples", spec := "lensExamples", inPlace := ["math/bits.Sub64"], unfollowed := true, recurses := true, named := ["math/bits.divideError", "math/bits.overflowError"], apart := false }
def LensExamplesSaid : Prop := lensExamplesRow.holds Try.pinned (OpenSpec.ofChange lensExamplesSpec)

/-- ITS FALSE NEIGHBOUR: 'it returns false'. Refute it at one input. -/
def lensExamplesWrong : ChangeSpec := { name := "lensExamples", fn := fun _ => fun
  | [] => { results := [.lit (.bool false)], args := [] }
  | _ => none }
def LensExamplesWrongFalsely : Prop := lensExamplesRow.holds Try.pinned (OpenSpec.ofChange lensExamplesWrong)

/-- 'sightbenchlaw04.LensCameras': WHATEVER THE INPUT: true; the input reads as it did. -/
def lensCamerasSpec : ChangeSpec := { name := "lensCameras", fn := fun _ => fun
  | [d1, d2, d3] => { results := [.lit (.bool true)], args := [d1, d2, d3] }
  | _ => none }
def lensCamerasRow : OpenClaim := { program := "ytbdcmdofmokoeaa", sum := "2be6b65a4fdfe18330113e6f72a5a220565f9339471bc9be89100d6f26660e04", func := "sightbench/sightbenchlaw04.LensCameras", spec := "lensCameras", inPlace := ["math/bits.Sub64", "math/bits.Add64"], unfollowed := true, recurses := true, apart := false }
def LensCamerasSaid : Prop := lensCamerasRow.holds Try.pinned (OpenSpec.ofChange lensCamerasSpec)

/-- ITS FALSE NEIGHBOUR: 'it returns false'. Refute it at one input. -/
def lensCamerasWrong : ChangeSpec := { name := "lensCameras", fn := fun _ => fun
  | [d1, d2, d3] => { results := [.lit (.bool false)], args := [d1, d2, d3] }
  | _ => none }
def LensCamerasWrongFalsely : Prop := lensCamerasRow.holds Try.pinned (OpenSpec.ofChange lensCamerasWrong)

/-- 'sightbenchlaw04.LensInverse': WHATEVER THE INPUT: true; the input reads as it did. -/
def lensInverseSpec : ChangeSpec := { name := "lensInverse", fn := fun _ => fun
  | [d1, d2, d3] => { results := [.lit (.bool true)], args := [d1, d2, d3] }
  | _ => none }
def lensInverseRow : OpenClaim := { program := "ytbdcmdofmokoeaa", sum := "2be6b65a4fdfe18330113e6f72a5a220565f9339471bc9be89100d6f26660e04", func := "sightbench/sightbenchlaw04.LensInverse", spec := "lensInverse", inPlace := ["math/bits.Sub64"], unfollowed := true, recurses := true, named := ["math/bits.divideError", "math/bits.overflowError"], apart := false }
def LensInverseSaid : Prop := lensInverseRow.holds Try.pinned (OpenSpec.ofChange lensInverseSpec)

/-- ITS FALSE NEIGHBOUR: 'it returns false'. Refute it at one input. -/
def lensInverseWrong : ChangeSpec := { name := "lensInverse", fn := fun _ => fun
  | [d1, d2, d3] => { results := [.lit (.bool false)], args := [d1, d2, d3] }
  | _ => none }
def LensInverseWrongFalsely : Prop := lensInverseRow.holds Try.pinned (OpenSpec.ofChange lensInverseWrong)

/-- 'sightbenchlaw04.LensSpans': WHATEVER THE INPUT: true; the input reads as it did. -/
def lensSpansSpec : ChangeSpec := { name := "lensSpans", fn := fun _ => fun
  | [d1, d2, d3] => { results := [.lit (.bool true)], args := [d1, d2, d3] }
  | _ => none }
def lensSpansRow : OpenClaim := { program := "ytbdcmdofmokoeaa", sum := "2be6b65a4fdfe18330113e6f72a5a220565f9339471bc9be89100d6f26660e04", func := "sightbench/sightbenchlaw04.LensSpans", spec := "lensSpans", inPlace := ["math/bits.Sub64"], unfollowed := true, recurses := true, named := ["math/bits.divideError", "math/bits.overflowError"], apart := false }
def LensSpansSaid : Prop := lensSpansRow.holds Try.pinned (OpenSpec.ofChange lensSpansSpec)

/-- ITS FALSE NEIGHBOUR: 'it returns false'. Refute it at one input. -/
def lensSpansWrong : ChangeSpec := { name := "lensSpans", fn := fun _ => fun
  | [d1, d2, d3] => { results := [.lit (.bool false)], args := [d1, d2, d3] }
  | _ => none }
def LensSpansWrongFalsely : Prop := lensSpansRow.holds Try.pinned (OpenSpec.ofChange lensSpansWrong)

/-- 'sightbenchlaw04.LensSees': WHATEVER THE INPUT: true; the input reads as it did. -/
def lensSeesSpec : ChangeSpec := { name := "lensSees", fn := fun _ => fun
  | [d1, d2, d3] => { results := [.lit (.bool true)], args := [d1, d2, d3] }
  | _ => none }
def lensSeesRow : OpenClaim := { program := "ytbdcmdofmokoeaa", sum := "2be6b65a4fdfe18330113e6f72a5a220565f9339471bc9be89100d6f26660e04", func := "sightbench/sightbenchlaw04.LensSees", spec := "lensSees", inPlace := ["math/bits.Sub64"], unfollowed := true, recurses := true, named := ["math/bits.divideError", "math/bits.overflowError"], apart := false }
def LensSeesSaid : Prop := lensSeesRow.holds Try.pinned (OpenSpec.ofChange lensSeesSpec)

/-- ITS FALSE NEIGHBOUR: 'it returns false'. Refute it at one input. -/
def lensSeesWrong : ChangeSpec := { name := "lensSees", fn := fun _ => fun
  | [d1, d2, d3] => { results := [.lit (.bool false)], args := [d1, d2, d3] }
  | _ => none }
def LensSeesWrongFalsely : Prop := lensSeesRow.holds Try.pinned (OpenSpec.ofChange lensSeesWrong)

/-- 'sightbenchlaw04.LensHolds': WHATEVER THE INPUT: true; the input reads as it did. -/
def lensHoldsSpec : ChangeSpec := { name := "lensHolds", fn := fun _ => fun
  | [d1, d2, d3, d4, d5, d6] => { results := [.lit (.bool true)], args := [d1, d2, d3, d4, d5, d6] }
  | _ => none }
def lensHoldsRow : OpenClaim := { program := "ytbdcmdofmokoeaa", sum := "2be6b65a4fdfe18330113e6f72a5a220565f9339471bc9be89100d6f26660e04", func := "sightbench/sightbenchlaw04.LensHolds", spec := "lensHolds", inPlace := ["math/bits.Sub64"], unfollowed := true, recurses := true, named := ["math/bits.divideError", "math/bits.overflowError"], apart := false }
def LensHoldsSaid : Prop := lensHoldsRow.holds Try.pinned (OpenSpec.ofChange lensHoldsSpec)

/-- ITS FALSE NEIGHBOUR: 'it returns false'. Refute it at one input. -/
def lensHoldsWrong : ChangeSpec := { name := "lensHolds", fn := fun _ => fun
  | [d1, d2, d3, d4, d5, d6] => { results := [.lit (.bool false)], args := [d1, d2, d3, d4, d5, d6] }
  | _ => none }
def LensHoldsWrongFalsely : Prop := lensHoldsRow.holds Try.pinned (OpenSpec.ofChange lensHoldsWrong)

/-- 'sightbenchlaw04.LensTight': WHATEVER THE INPUT: true; the input reads as it did. -/
def lensTightSpec : ChangeSpec := { name := "lensTight", fn := fun _ => fun
  | [d1, d2] => { results := [.lit (.bool true)], args := [d1, d2] }
  | _ => none }
def lensTightRow : OpenClaim := { program := "ytbdcmdofmokoeaa", sum := "2be6b65a4fdfe18330113e6f72a5a220565f9339471bc9be89100d6f26660e04", func := "sightbench/sightbenchlaw04.LensTight", spec := "lensTight", inPlace := ["math/bits.Sub64"], unfollowed := true, recurses := true, named := ["math/bits.divideError", "math/bits.overflowError"], apart := false }
def LensTightSaid : Prop := lensTightRow.holds Try.pinned (OpenSpec.ofChange lensTightSpec)

/-- ITS FALSE NEIGHBOUR: 'it returns false'. Refute it at one input. -/
def lensTightWrong : ChangeSpec := { name := "lensTight", fn := fun _ => fun
  | [d1, d2] => { results := [.lit (.bool false)], args := [d1, d2] }
  | _ => none }
def LensTightWrongFalsely : Prop := lensTightRow.holds Try.pinned (OpenSpec.ofChange lensTightWrong)

/-- 'sightbenchlaw04.LensFewer': WHATEVER THE INPUT: true; the input reads as it did. -/
def lensFewerSpec : ChangeSpec := { name := "lensFewer", fn := fun _ => fun
  | [d1, d2, d3, d4] => { results := [.lit (.bool true)], args := [d1, d2, d3, d4] }
  | _ => none }
def lensFewerRow : OpenClaim := { program := "ytbdcmdofmokoeaa", sum := "2be6b65a4fdfe18330113e6f72a5a220565f9339471bc9be89100d6f26660e04", func := "sightbench/sightbenchlaw04.LensFewer", spec := "lensFewer", inPlace := ["math/bits.Sub64"], unfollowed := true, recurses := true, named := ["math/bits.divideError", "math/bits.overflowError"], apart := false }
def LensFewerSaid : Prop := lensFewerRow.holds Try.pinned (OpenSpec.ofChange lensFewerSpec)

/-- ITS FALSE NEIGHBOUR: 'it returns false'. Refute it at one input. -/
def lensFewerWrong : ChangeSpec := { name := "lensFewer", fn := fun _ => fun
  | [d1, d2, d3, d4] => { results := [.lit (.bool false)], args := [d1, d2, d3, d4] }
  | _ => none }
def LensFewerWrongFalsely : Prop := lensFewerRow.holds Try.pinned (OpenSpec.ofChange lensFewerWrong)

/-- 'sightbenchlaw04.LensBad': WHATEVER THE INPUT: true; the input reads as it did. -/
def lensBadSpec : ChangeSpec := { name := "lensBad", fn := fun _ => fun
  | [d] => { results := [.lit (.bool true)], args := [d] }
  | _ => none }
def lensBadRow : OpenClaim := { program := "ytbdcmdofmokoeaa", sum := "2be6b65a4fdfe18330113e6f72a5a220565f9339471bc9be89100d6f26660e04", func := "sightbench/sightbenchlaw04.LensBad", spec := "lensBad", inPlace := ["math/bits.Sub64"], unfollowed := true, recurses := true, named := ["math/bits.divideError", "math/bits.overflowError"], apart := false }
def LensBadSaid : Prop := lensBadRow.holds Try.pinned (OpenSpec.ofChange lensBadSpec)

/-- ITS FALSE NEIGHBOUR: 'it returns false'. Refute it at one input. -/
def lensBadWrong : ChangeSpec := { name := "lensBad", fn := fun _ => fun
  | [d] => { results := [.lit (.bool false)], args := [d] }
  | _ => none }
def LensBadWrongFalsely : Prop := lensBadRow.holds Try.pinned (OpenSpec.ofChange lensBadWrong)

/-- 'sightbenchlaw04.LensDeep': WHATEVER THE INPUT: true; the input reads as it did. -/
def lensDeepSpec : ChangeSpec := { name := "lensDeep", fn := fun _ => fun
  | [d1, d2, d3, d4, d5, d6] => { results := [.lit (.bool true)], args := [d1, d2, d3, d4, d5, d6] }
  | _ => none }
def lensDeepRow : OpenClaim := { program := "ytbdcmdofmokoeaa", sum := "2be6b65a4fdfe18330113e6f72a5a220565f9339471bc9be89100d6f26660e04", func := "sightbench/sightbenchlaw04.LensDeep", spec := "lensDeep", inPlace := ["math/bits.Sub64", "math/bits.Add64"], unfollowed := true, recurses := true, named := ["math/bits.divideError", "math/bits.overflowError"], apart := false }
def LensDeepSaid : Prop := lensDeepRow.holds Try.pinned (OpenSpec.ofChange lensDeepSpec)

/-- ITS FALSE NEIGHBOUR: 'it returns false'. Refute it at one input. -/
def lensDeepWrong : ChangeSpec := { name := "lensDeep", fn := fun _ => fun
  | [d1, d2, d3, d4, d5, d6] => { results := [.lit (.bool false)], args := [d1, d2, d3, d4, d5, d6] }
  | _ => none }
def LensDeepWrongFalsely : Prop := lensDeepRow.holds Try.pinned (OpenSpec.ofChange lensDeepWrong)

/-- 'sightbenchlaw04.LensGray': WHATEVER THE INPUT: true; the input reads as it did. -/
def lensGraySpec : ChangeSpec := { name := "lensGray", fn := fun _ => fun
  | [d1, d2] => { results := [.lit (.bool true)], args := [d1, d2] }
  | _ => none }
def lensGrayRow : OpenClaim := { program := "ytbdcmdofmokoeaa", sum := "2be6b65a4fdfe18330113e6f72a5a220565f9339471bc9be89100d6f26660e04", func := "sightbench/sightbenchlaw04.LensGray", spec := "lensGray", inPlace := ["math/bits.Sub64"], unfollowed := true, recurses := true, named := ["math/bits.divideError", "math/bits.overflowError"], apart := false }
def LensGraySaid : Prop := lensGrayRow.holds Try.pinned (OpenSpec.ofChange lensGraySpec)

/-- ITS FALSE NEIGHBOUR: 'it returns false'. Refute it at one input. -/
def lensGrayWrong : ChangeSpec := { name := "lensGray", fn := fun _ => fun
  | [d1, d2] => { results := [.lit (.bool false)], args := [d1, d2] }
  | _ => none }
def LensGrayWrongFalsely : Prop := lensGrayRow.holds Try.pinned (OpenSpec.ofChange lensGrayWrong)

/-- 'sightbenchlaw04.LensStriped': WHATEVER THE INPUT: true; the input reads as it did. -/
def lensStripedSpec : ChangeSpec := { name := "lensStriped", fn := fun _ => fun
  | [d1, d2, d3, d4, d5] => { results := [.lit (.bool true)], args := [d1, d2, d3, d4, d5] }
  | _ => none }
def lensStripedRow : OpenClaim := { program := "ytbdcmdofmokoeaa", sum := "2be6b65a4fdfe18330113e6f72a5a220565f9339471bc9be89100d6f26660e04", func := "sightbench/sightbenchlaw04.LensStriped", spec := "lensStriped", inPlace := ["math/bits.Sub64"], unfollowed := true, recurses := true, named := ["math/bits.divideError", "math/bits.overflowError"], apart := false }
def LensStripedSaid : Prop := lensStripedRow.holds Try.pinned (OpenSpec.ofChange lensStripedSpec)

/-- ITS FALSE NEIGHBOUR: 'it returns false'. Refute it at one input. -/
def lensStripedWrong : ChangeSpec := { name := "lensStriped", fn := fun _ => fun
  | [d1, d2, d3, d4, d5] => { results := [.lit (.bool false)], args := [d1, d2, d3, d4, d5] }
  | _ => none }
def LensStripedWrongFalsely : Prop := lensStripedRow.holds Try.pinned (OpenSpec.ofChange lensStripedWrong)

/- THE SECOND FORM. 'bulk': how many values and letters a reading holds, each counted each time it is reached (what is shared counts as often as it is met; a slice's spare places count too). A statement '..UptoSaid' is the law's where the arguments, and the package variables that the reading takes, are together of bulk at most 1048576: NARROWER than '..Said'. Prove '..Said' where nothing that the law and all that it calls make is longer than what came in: it says more and counts as full. Else prove '..UptoSaid'. A law counts once. -/
mutual
def uptoBulk {H : Type} : DataW H → Nat
  | .lit (.string bytes) => bytes.length + 1
  | .lit _ => 1
  | .nil => 1
  | .ptr d => uptoBulk d + 1
  | .slice elems spare => uptoBulkAll elems + uptoBulkAll spare + 1
  | .agg parts => uptoBulkAll parts + 1
  | .iface _ d => uptoBulk d + 1
  | .map entries => uptoBulkEntries entries + 1
  | .held _ => 1
def uptoBulkAll {H : Type} : List (DataW H) → Nat
  | [] => 0
  | d :: r => uptoBulk d + uptoBulkAll r
def uptoBulkEntries {H : Type} : List (Lit × DataW H) → Nat
  | [] => 0
  | x :: r => uptoBulkEntry x + uptoBulkEntries r
def uptoBulkEntry {H : Type} : Lit × DataW H → Nat
  | (.string bytes, d) => bytes.length + uptoBulk d + 1
  | (_, d) => uptoBulk d + 1
 end
def uptoSmall : (H : Type) → List (DataW H) → Bool := fun _ ds => decide (uptoBulkAll ds ≤ 1048576)
def OpenSpec.upto (s : _root_.Go.ChangeSpec) : _root_.Go.OpenSpec := { _root_.Go.OpenSpec.ofChange s with cond := some uptoSmall }

/-- 'sightbenchlaw04.LensExamples', WHERE WHAT IT READS IS OF BULK AT MOST 1048576: true; the input reads as it did. -/
def lensExamplesUptoRow : OpenClaim := { program := "ytbdcmdofmokoeaa", sum := "2be6b65a4fdfe18330113e6f72a5a220565f9339471bc9be89100d6f26660e04", func := "sightbench/sightbenchlaw04.LensExamples", spec := "lensExamples", inPlace := ["math/bits.Sub64"], unfollowed := true, recurses := true, named := ["math/bits.divideError", "math/bits.overflowError"], apart := false, narrowed := true }
def LensExamplesUptoSaid : Prop := lensExamplesUptoRow.holds Try.pinned (OpenSpec.upto lensExamplesSpec)

/-- 'sightbenchlaw04.LensCameras', WHERE WHAT IT READS IS OF BULK AT MOST 1048576: true; the input reads as it did. -/
def lensCamerasUptoRow : OpenClaim := { program := "ytbdcmdofmokoeaa", sum := "2be6b65a4fdfe18330113e6f72a5a220565f9339471bc9be89100d6f26660e04", func := "sightbench/sightbenchlaw04.LensCameras", spec := "lensCameras", inPlace := ["math/bits.Sub64", "math/bits.Add64"], unfollowed := true, recurses := true, apart := false, narrowed := true }
def LensCamerasUptoSaid : Prop := lensCamerasUptoRow.holds Try.pinned (OpenSpec.upto lensCamerasSpec)

/-- 'sightbenchlaw04.LensInverse', WHERE WHAT IT READS IS OF BULK AT MOST 1048576: true; the input reads as it did. -/
def lensInverseUptoRow : OpenClaim := { program := "ytbdcmdofmokoeaa", sum := "2be6b65a4fdfe18330113e6f72a5a220565f9339471bc9be89100d6f26660e04", func := "sightbench/sightbenchlaw04.LensInverse", spec := "lensInverse", inPlace := ["math/bits.Sub64"], unfollowed := true, recurses := true, named := ["math/bits.divideError", "math/bits.overflowError"], apart := false, narrowed := true }
def LensInverseUptoSaid : Prop := lensInverseUptoRow.holds Try.pinned (OpenSpec.upto lensInverseSpec)

/-- 'sightbenchlaw04.LensSpans', WHERE WHAT IT READS IS OF BULK AT MOST 1048576: true; the input reads as it did. -/
def lensSpansUptoRow : OpenClaim := { program := "ytbdcmdofmokoeaa", sum := "2be6b65a4fdfe18330113e6f72a5a220565f9339471bc9be89100d6f26660e04", func := "sightbench/sightbenchlaw04.LensSpans", spec := "lensSpans", inPlace := ["math/bits.Sub64"], unfollowed := true, recurses := true, named := ["math/bits.divideError", "math/bits.overflowError"], apart := false, narrowed := true }
def LensSpansUptoSaid : Prop := lensSpansUptoRow.holds Try.pinned (OpenSpec.upto lensSpansSpec)

/-- 'sightbenchlaw04.LensSees', WHERE WHAT IT READS IS OF BULK AT MOST 1048576: true; the input reads as it did. -/
def lensSeesUptoRow : OpenClaim := { program := "ytbdcmdofmokoeaa", sum := "2be6b65a4fdfe18330113e6f72a5a220565f9339471bc9be89100d6f26660e04", func := "sightbench/sightbenchlaw04.LensSees", spec := "lensSees", inPlace := ["math/bits.Sub64"], unfollowed := true, recurses := true, named := ["math/bits.divideError", "math/bits.overflowError"], apart := false, narrowed := true }
def LensSeesUptoSaid : Prop := lensSeesUptoRow.holds Try.pinned (OpenSpec.upto lensSeesSpec)

/-- 'sightbenchlaw04.LensHolds', WHERE WHAT IT READS IS OF BULK AT MOST 1048576: true; the input reads as it did. -/
def lensHoldsUptoRow : OpenClaim := { program := "ytbdcmdofmokoeaa", sum := "2be6b65a4fdfe18330113e6f72a5a220565f9339471bc9be89100d6f26660e04", func := "sightbench/sightbenchlaw04.LensHolds", spec := "lensHolds", inPlace := ["math/bits.Sub64"], unfollowed := true, recurses := true, named := ["math/bits.divideError", "math/bits.overflowError"], apart := false, narrowed := true }
def LensHoldsUptoSaid : Prop := lensHoldsUptoRow.holds Try.pinned (OpenSpec.upto lensHoldsSpec)

/-- 'sightbenchlaw04.LensTight', WHERE WHAT IT READS IS OF BULK AT MOST 1048576: true; the input reads as it did. -/
def lensTightUptoRow : OpenClaim := { program := "ytbdcmdofmokoeaa", sum := "2be6b65a4fdfe18330113e6f72a5a220565f9339471bc9be89100d6f26660e04", func := "sightbench/sightbenchlaw04.LensTight", spec := "lensTight", inPlace := ["math/bits.Sub64"], unfollowed := true, recurses := true, named := ["math/bits.divideError", "math/bits.overflowError"], apart := false, narrowed := true }
def LensTightUptoSaid : Prop := lensTightUptoRow.holds Try.pinned (OpenSpec.upto lensTightSpec)

/-- 'sightbenchlaw04.LensFewer', WHERE WHAT IT READS IS OF BULK AT MOST 1048576: true; the input reads as it did. -/
def lensFewerUptoRow : OpenClaim := { program := "ytbdcmdofmokoeaa", sum := "2be6b65a4fdfe18330113e6f72a5a220565f9339471bc9be89100d6f26660e04", func := "sightbench/sightbenchlaw04.LensFewer", spec := "lensFewer", inPlace := ["math/bits.Sub64"], unfollowed := true, recurses := true, named := ["math/bits.divideError", "math/bits.overflowError"], apart := false, narrowed := true }
def LensFewerUptoSaid : Prop := lensFewerUptoRow.holds Try.pinned (OpenSpec.upto lensFewerSpec)

/-- 'sightbenchlaw04.LensBad', WHERE WHAT IT READS IS OF BULK AT MOST 1048576: true; the input reads as it did. -/
def lensBadUptoRow : OpenClaim := { program := "ytbdcmdofmokoeaa", sum := "2be6b65a4fdfe18330113e6f72a5a220565f9339471bc9be89100d6f26660e04", func := "sightbench/sightbenchlaw04.LensBad", spec := "lensBad", inPlace := ["math/bits.Sub64"], unfollowed := true, recurses := true, named := ["math/bits.divideError", "math/bits.overflowError"], apart := false, narrowed := true }
def LensBadUptoSaid : Prop := lensBadUptoRow.holds Try.pinned (OpenSpec.upto lensBadSpec)

/-- 'sightbenchlaw04.LensDeep', WHERE WHAT IT READS IS OF BULK AT MOST 1048576: true; the input reads as it did. -/
def lensDeepUptoRow : OpenClaim := { program := "ytbdcmdofmokoeaa", sum := "2be6b65a4fdfe18330113e6f72a5a220565f9339471bc9be89100d6f26660e04", func := "sightbench/sightbenchlaw04.LensDeep", spec := "lensDeep", inPlace := ["math/bits.Sub64", "math/bits.Add64"], unfollowed := true, recurses := true, named := ["math/bits.divideError", "math/bits.overflowError"], apart := false, narrowed := true }
def LensDeepUptoSaid : Prop := lensDeepUptoRow.holds Try.pinned (OpenSpec.upto lensDeepSpec)

/-- 'sightbenchlaw04.LensGray', WHERE WHAT IT READS IS OF BULK AT MOST 1048576: true; the input reads as it did. -/
def lensGrayUptoRow : OpenClaim := { program := "ytbdcmdofmokoeaa", sum := "2be6b65a4fdfe18330113e6f72a5a220565f9339471bc9be89100d6f26660e04", func := "sightbench/sightbenchlaw04.LensGray", spec := "lensGray", inPlace := ["math/bits.Sub64"], unfollowed := true, recurses := true, named := ["math/bits.divideError", "math/bits.overflowError"], apart := false, narrowed := true }
def LensGrayUptoSaid : Prop := lensGrayUptoRow.holds Try.pinned (OpenSpec.upto lensGraySpec)

/-- 'sightbenchlaw04.LensStriped', WHERE WHAT IT READS IS OF BULK AT MOST 1048576: true; the input reads as it did. -/
def lensStripedUptoRow : OpenClaim := { program := "ytbdcmdofmokoeaa", sum := "2be6b65a4fdfe18330113e6f72a5a220565f9339471bc9be89100d6f26660e04", func := "sightbench/sightbenchlaw04.LensStriped", spec := "lensStriped", inPlace := ["math/bits.Sub64"], unfollowed := true, recurses := true, named := ["math/bits.divideError", "math/bits.overflowError"], apart := false, narrowed := true }
def LensStripedUptoSaid : Prop := lensStripedUptoRow.holds Try.pinned (OpenSpec.upto lensStripedSpec)

end Rows
end Go.Proofs.Ytbdcmdofmokoeaa
