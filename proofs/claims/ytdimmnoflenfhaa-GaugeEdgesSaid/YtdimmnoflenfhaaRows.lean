/-
  No cell of these rows narrows 'for every input' (looked for: loops, veiled, ifaces, maps, wideKeys, modest, calm, conditions, laid).
  DERIVED. THE GIVEN ROWS OF THIS SEAT. 6 by the template 'for every input the law returns true; each argument reads behind the call as it read before'; 0 by the template 'total and deterministic' (their statements: YtdimmnoflenfhaaTotals.lean).
  GIVEN WITH THE SEED: the statements are not yours to turn. If you find one false, say at which input.
  Laid BY PROGRAM, IN A SANDBOX (cutbox-rows.mjs): the forced cells as the released guide's own fill.sh prints them over the translation f75ff78830bae353… (all of the seat's roots in one cut). By AI agents, Wed Nov 11 2026. No macro, syntax, notation, axiom, sorry.
-/
import Derived.Test.YtdimmnoflenfhaaChecked
import GoSem.Claim
import GoSem.ClaimJoined
import GoSem.ClaimMapViews
import Derived.JoinedTies
import Derived.KernelRfl
namespace Go.Proofs.Ytdimmnoflenfhaa
/- THE CELL 'sum', in the pinned program and in every row, IS THE sha256 OF THE DUMP (.gsa) THAT YtdimmnoflenfhaaProg.lean LOADS. Nothing in Lean hashes anything: it is a label: what it is worth is what the hold of that sum in a sandbox is worth. -/
noncomputable def Try.pinned : Pinned := { name := "ytdimmnoflenfhaa", sum := "f75ff78830bae353f5232a7563a804f073d5b77fc4918881aa133c6ed4c7065d", checked := Try.checked }
namespace Rows
def none {H : Type} : Left H := { results := [], args := [] }

/-- 'sightbenchlaw05.GaugeExamples': WHATEVER THE INPUT: true; the input reads as it did. -/
def gaugeExamplesSpec : ChangeSpec := { name := "gaugeExamples", fn := fun _ => fun
  | [] => { results := [.lit (.bool true)], args := [] }
  | _ => none }
def gaugeExamplesRow : OpenClaim := { program := "ytdimmnoflenfhaa", sum := "f75ff78830bae353f5232a7563a804f073d5b77fc4918881aa133c6ed4c7065d", func := "sightbench/sightbenchlaw05.GaugeExamples", spec := "gaugeExamples", inPlace := ["math/bits.Sub64", "math/bits.Add64"], unfollowed := true, recurses := true, named := ["math/bits.divideError", "math/bits.overflowError"], apart := false }
def GaugeExamplesSaid : Prop := gaugeExamplesRow.holds Try.pinned (OpenSpec.ofChange gaugeExamplesSpec)

/-- ITS FALSE NEIGHBOUR: 'it returns false'. Refute it at one input. -/
def gaugeExamplesWrong : ChangeSpec := { name := "gaugeExamples", fn := fun _ => fun
  | [] => { results := [.lit (.bool false)], args := [] }
  | _ => none }
def GaugeExamplesWrongFalsely : Prop := gaugeExamplesRow.holds Try.pinned (OpenSpec.ofChange gaugeExamplesWrong)

/-- 'sightbenchlaw05.GaugeProfiles': WHATEVER THE INPUT: true; the input reads as it did. -/
def gaugeProfilesSpec : ChangeSpec := { name := "gaugeProfiles", fn := fun _ => fun
  | [d1, d2, d3, d4] => { results := [.lit (.bool true)], args := [d1, d2, d3, d4] }
  | _ => none }
def gaugeProfilesRow : OpenClaim := { program := "ytdimmnoflenfhaa", sum := "f75ff78830bae353f5232a7563a804f073d5b77fc4918881aa133c6ed4c7065d", func := "sightbench/sightbenchlaw05.GaugeProfiles", spec := "gaugeProfiles", inPlace := ["math/bits.Sub64", "math/bits.Add64"], unfollowed := true, recurses := true, apart := false }
def GaugeProfilesSaid : Prop := gaugeProfilesRow.holds Try.pinned (OpenSpec.ofChange gaugeProfilesSpec)

/-- ITS FALSE NEIGHBOUR: 'it returns false'. Refute it at one input. -/
def gaugeProfilesWrong : ChangeSpec := { name := "gaugeProfiles", fn := fun _ => fun
  | [d1, d2, d3, d4] => { results := [.lit (.bool false)], args := [d1, d2, d3, d4] }
  | _ => none }
def GaugeProfilesWrongFalsely : Prop := gaugeProfilesRow.holds Try.pinned (OpenSpec.ofChange gaugeProfilesWrong)

/-- 'sightbenchlaw05.GaugeEdges': WHATEVER THE INPUT: true; the input reads as it did. -/
def gaugeEdgesSpec : ChangeSpec := { name := "gaugeEdges", fn := fun _ => fun
  | [d1, d2, d3, d4] => { results := [.lit (.bool true)], args := [d1, d2, d3, d4] }
  | _ => none }
def gaugeEdgesRow : OpenClaim := { program := "ytdimmnoflenfhaa", sum := "f75ff78830bae353f5232a7563a804f073d5b77fc4918881aa133c6ed4c7065d", func := "sightbench/sightbenchlaw05.GaugeEdges", spec := "gaugeEdges", inPlace := ["math/bits.Sub64", "math/bits.Add64"], unfollowed := true, recurses := true, named := ["math/bits.divideError", "math/bits.overflowError"], apart := false }
def GaugeEdgesSaid : Prop := gaugeEdgesRow.holds Try.pinned (OpenSpec.ofChange gaugeEdgesSpec)

/-- ITS FALSE NEIGHBOUR: 'it returns false'. Refute it at one input. -/
def gaugeEdgesWrong : ChangeSpec := { name := "gaugeEdges", fn := fun _ => fun
  | [d1, d2, d3, d4] => { results := [.lit (.bool false)], args := [d1, d2, d3, d4] }
  | _ => none }
def GaugeEdgesWrongFalsely : Prop := gaugeEdgesRow.holds Try.pinned (OpenSpec.ofChange gaugeEdgesWrong)

/-- 'sightbenchlaw05.GaugeDecides': WHATEVER THE INPUT: true; the input reads as it did. -/
def gaugeDecidesSpec : ChangeSpec := { name := "gaugeDecides", fn := fun _ => fun
  | [d1, d2, d3] => { results := [.lit (.bool true)], args := [d1, d2, d3] }
  | _ => none }
def gaugeDecidesRow : OpenClaim := { program := "ytdimmnoflenfhaa", sum := "f75ff78830bae353f5232a7563a804f073d5b77fc4918881aa133c6ed4c7065d", func := "sightbench/sightbenchlaw05.GaugeDecides", spec := "gaugeDecides", inPlace := ["math/bits.Sub64", "math/bits.Add64"], unfollowed := true, recurses := true, named := ["math/bits.divideError", "math/bits.overflowError"], apart := false }
def GaugeDecidesSaid : Prop := gaugeDecidesRow.holds Try.pinned (OpenSpec.ofChange gaugeDecidesSpec)

/-- ITS FALSE NEIGHBOUR: 'it returns false'. Refute it at one input. -/
def gaugeDecidesWrong : ChangeSpec := { name := "gaugeDecides", fn := fun _ => fun
  | [d1, d2, d3] => { results := [.lit (.bool false)], args := [d1, d2, d3] }
  | _ => none }
def GaugeDecidesWrongFalsely : Prop := gaugeDecidesRow.holds Try.pinned (OpenSpec.ofChange gaugeDecidesWrong)

/-- 'sightbenchlaw05.GaugeCorners': WHATEVER THE INPUT: true; the input reads as it did. -/
def gaugeCornersSpec : ChangeSpec := { name := "gaugeCorners", fn := fun _ => fun
  | [d1, d2] => { results := [.lit (.bool true)], args := [d1, d2] }
  | _ => none }
def gaugeCornersRow : OpenClaim := { program := "ytdimmnoflenfhaa", sum := "f75ff78830bae353f5232a7563a804f073d5b77fc4918881aa133c6ed4c7065d", func := "sightbench/sightbenchlaw05.GaugeCorners", spec := "gaugeCorners", inPlace := ["math/bits.Sub64", "math/bits.Add64"], unfollowed := true, recurses := true, named := ["math/bits.divideError", "math/bits.overflowError"], apart := false }
def GaugeCornersSaid : Prop := gaugeCornersRow.holds Try.pinned (OpenSpec.ofChange gaugeCornersSpec)

/-- ITS FALSE NEIGHBOUR: 'it returns false'. Refute it at one input. -/
def gaugeCornersWrong : ChangeSpec := { name := "gaugeCorners", fn := fun _ => fun
  | [d1, d2] => { results := [.lit (.bool false)], args := [d1, d2] }
  | _ => none }
def GaugeCornersWrongFalsely : Prop := gaugeCornersRow.holds Try.pinned (OpenSpec.ofChange gaugeCornersWrong)

/-- 'sightbenchlaw05.GaugeMeets': WHATEVER THE INPUT: true; the input reads as it did. -/
def gaugeMeetsSpec : ChangeSpec := { name := "gaugeMeets", fn := fun _ => fun
  | [d1, d2, d3] => { results := [.lit (.bool true)], args := [d1, d2, d3] }
  | _ => none }
def gaugeMeetsRow : OpenClaim := { program := "ytdimmnoflenfhaa", sum := "f75ff78830bae353f5232a7563a804f073d5b77fc4918881aa133c6ed4c7065d", func := "sightbench/sightbenchlaw05.GaugeMeets", spec := "gaugeMeets", inPlace := ["math/bits.Sub64", "math/bits.Add64"], unfollowed := true, recurses := true, named := ["math/bits.divideError", "math/bits.overflowError"], apart := false }
def GaugeMeetsSaid : Prop := gaugeMeetsRow.holds Try.pinned (OpenSpec.ofChange gaugeMeetsSpec)

/-- ITS FALSE NEIGHBOUR: 'it returns false'. Refute it at one input. -/
def gaugeMeetsWrong : ChangeSpec := { name := "gaugeMeets", fn := fun _ => fun
  | [d1, d2, d3] => { results := [.lit (.bool false)], args := [d1, d2, d3] }
  | _ => none }
def GaugeMeetsWrongFalsely : Prop := gaugeMeetsRow.holds Try.pinned (OpenSpec.ofChange gaugeMeetsWrong)

/- THE SECOND FORM. 'bulk': how many values and letters a reading holds, each counted each time it is reached (what is shared counts as often as it is met; a slice's spare places count too). A statement '..UptoSaid' is the law's where the arguments, and the package variables that the reading takes, are together of bulk at most 1048576: NARROWER than '..Said'. Prove '..Said' where nothing that the law and all that it calls make is longer than what came in: it says more and counts as full. Else prove '..UptoSaid'. A law counts once. -/
mutual
def uptoBulk {H : Type} : DataW H → Nat
  | .lit (.string bytes) => bytes.length + 1
  | .lit _ => 1
  | .nil => 1
  | .ptr d => uptoBulk d + 1
  | .slice elems spare => uptoBulkAll elems + uptoBulkAll spare + 1
  | .agg parts => uptoBulkAll parts + 1
  | .iface _ d => uptoBulk d + 1
  | .map entries => uptoBulkEntries entries + 1
  | .held _ => 1
def uptoBulkAll {H : Type} : List (DataW H) → Nat
  | [] => 0
  | d :: r => uptoBulk d + uptoBulkAll r
def uptoBulkEntries {H : Type} : List (Lit × DataW H) → Nat
  | [] => 0
  | x :: r => uptoBulkEntry x + uptoBulkEntries r
def uptoBulkEntry {H : Type} : Lit × DataW H → Nat
  | (.string bytes, d) => bytes.length + uptoBulk d + 1
  | (_, d) => uptoBulk d + 1
 end
def uptoSmall : (H : Type) → List (DataW H) → Bool := fun _ ds => decide (uptoBulkAll ds ≤ 1048576)
def OpenSpec.upto (s : _root_.Go.ChangeSpec) : _root_.Go.OpenSpec := { _root_.Go.OpenSpec.ofChange s with cond := some uptoSmall }

/-- 'sightbenchlaw05.GaugeExamples', WHERE WHAT IT READS IS OF BULK AT MOST 1048576: true; the input reads as it did. -/
def gaugeExamplesUptoRow : OpenClaim := { program := "ytdimmnoflenfhaa", sum := "f75ff78830bae353f5232a7563a804f073d5b77fc4918881aa133c6ed4c7065d", func := "sightbench/sightbenchlaw05.GaugeExamples", spec := "gaugeExamples", inPlace := ["math/bits.Sub64", "math/bits.Add64"], unfollowed := true, recurses := true, named := ["math/bits.divideError", "math/bits.overflowError"], apart := false, narrowed := true }
def GaugeExamplesUptoSaid : Prop := gaugeExamplesUptoRow.holds Try.pinned (OpenSpec.upto gaugeExamplesSpec)

/-- 'sightbenchlaw05.GaugeProfiles', WHERE WHAT IT READS IS OF BULK AT MOST 1048576: true; the input reads as it did. -/
def gaugeProfilesUptoRow : OpenClaim := { program := "ytdimmnoflenfhaa", sum := "f75ff78830bae353f5232a7563a804f073d5b77fc4918881aa133c6ed4c7065d", func := "sightbench/sightbenchlaw05.GaugeProfiles", spec := "gaugeProfiles", inPlace := ["math/bits.Sub64", "math/bits.Add64"], unfollowed := true, recurses := true, apart := false, narrowed := true }
def GaugeProfilesUptoSaid : Prop := gaugeProfilesUptoRow.holds Try.pinned (OpenSpec.upto gaugeProfilesSpec)

/-- 'sightbenchlaw05.GaugeEdges', WHERE WHAT IT READS IS OF BULK AT MOST 1048576: true; the input reads as it did. -/
def gaugeEdgesUptoRow : OpenClaim := { program := "ytdimmnoflenfhaa", sum := "f75ff78830bae353f5232a7563a804f073d5b77fc4918881aa133c6ed4c7065d", func := "sightbench/sightbenchlaw05.GaugeEdges", spec := "gaugeEdges", inPlace := ["math/bits.Sub64", "math/bits.Add64"], unfollowed := true, recurses := true, named := ["math/bits.divideError", "math/bits.overflowError"], apart := false, narrowed := true }
def GaugeEdgesUptoSaid : Prop := gaugeEdgesUptoRow.holds Try.pinned (OpenSpec.upto gaugeEdgesSpec)

/-- 'sightbenchlaw05.GaugeDecides', WHERE WHAT IT READS IS OF BULK AT MOST 1048576: true; the input reads as it did. -/
def gaugeDecidesUptoRow : OpenClaim := { program := "ytdimmnoflenfhaa", sum := "f75ff78830bae353f5232a7563a804f073d5b77fc4918881aa133c6ed4c7065d", func := "sightbench/sightbenchlaw05.GaugeDecides", spec := "gaugeDecides", inPlace := ["math/bits.Sub64", "math/bits.Add64"], unfollowed := true, recurses := true, named := ["math/bits.divideError", "math/bits.overflowError"], apart := false, narrowed := true }
def GaugeDecidesUptoSaid : Prop := gaugeDecidesUptoRow.holds Try.pinned (OpenSpec.upto gaugeDecidesSpec)

/-- 'sightbenchlaw05.GaugeCorners', WHERE WHAT IT READS IS OF BULK AT MOST 1048576: true; the input reads as it did. -/
def gaugeCornersUptoRow : OpenClaim := { program := "ytdimmnoflenfhaa", sum := "f75ff78830bae353f5232a7563a804f073d5b77fc4918881aa133c6ed4c7065d", func := "sightbench/sightbenchlaw05.GaugeCorners", spec := "gaugeCorners", inPlace := ["math/bits.Sub64", "math/bits.Add64"], unfollowed := true, recurses := true, named := ["math/bits.divideError", "math/bits.overflowError"], apart := false, narrowed := true }
def GaugeCornersUptoSaid : Prop := gaugeCornersUptoRow.holds Try.pinned (OpenSpec.upto gaugeCornersSpec)

/-- 'sightbenchlaw05.GaugeMeets', WHERE WHAT IT READS IS OF BULK AT MOST 1048576: true; the input reads as it did. -/
def gaugeMeetsUptoRow : OpenClaim := { program := "ytdimmnoflenfhaa", sum := "f75ff78830bae353f5232a7563a804f073d5b77fc4918881aa133c6ed4c7065d", func := "sightbench/sightbenchlaw05.GaugeMeets", spec := "gaugeMeets", inPlace := ["math/bits.Sub64", "math/bits.Add64"], unfollowed := true, recurses := true, named := ["math/bits.divideError", "math/bits.overflowError"], apart := false, narrowed := true }
def GaugeMeetsUptoSaid : Prop := gaugeMeetsUptoRow.holds Try.pinned (OpenSpec.upto gaugeMeetsSpec)

end Rows
end Go.Proofs.Ytdimmnoflenfhaa
