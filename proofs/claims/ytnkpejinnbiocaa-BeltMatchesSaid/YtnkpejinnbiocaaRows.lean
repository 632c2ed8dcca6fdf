/-
  No cell of these rows narrows 'for every input' (looked for: loops, veiled, ifaces, maps, wideKeys, modest, calm, conditions, laid).
  DERIVED. THE GIVEN ROWS OF THIS SEAT. 4 by the template 'for every input the law returns true; each argument reads behind the call as it read before'; 0 by the template 'total and deterministic' (their statements: YtnkpejinnbiocaaTotals.lean).
  GIVEN WITH THE SEED: the statements are not yours to turn. If you find one false, say at which input.
  Laid BY PROGRAM, IN A SANDBOX (cutbox-rows.mjs): the forced cells as the released guide's own fill.sh prints them over the translation 3a2bdcd94e6a6b92… (all of the seat's roots in one cut). By AI agents, Wed Nov 11 2026. No macro, syntax, notation, axiom, sorry.
-/
import Derived.Test.YtnkpejinnbiocaaChecked
import GoSem.Claim
import GoSem.ClaimJoined
import GoSem.ClaimMapViews
import Derived.JoinedTies
import Derived.KernelRfl
namespace Go.Proofs.Ytnkpejinnbiocaa
/- THE CELL 'sum', in the pinned program and in every row, IS THE sha256 OF THE DUMP (.gsa) THAT YtnkpejinnbiocaaProg.lean LOADS. Nothing in Lean hashes anything: it is a label: what it is worth is what the hold of that sum in a sandbox is worth. -/
noncomputable def Try.pinned : Pinned := { name := "ytnkpejinnbiocaa", sum := "3a2bdcd94e6a6b92a0c30b6814c26f6803f86c895ac42f468e7783442e6f901a", checked := Try.checked }
namespace Rows
def none {H : Type} : Left H := { results := [], args := [] }

/-- 'sightbenchlaw09.BeltTracks': WHATEVER THE INPUT: true; the input reads as it did. -/
def beltTracksSpec : ChangeSpec := { name := "beltTracks", fn := fun _ => fun
  | [d1, d2, d3] => { results := [.lit (.bool true)], args := [d1, d2, d3] }
  | _ => none }
def beltTracksRow : OpenClaim := { program := "ytnkpejinnbiocaa", sum := "3a2bdcd94e6a6b92a0c30b6814c26f6803f86c895ac42f468e7783442e6f901a", func := "sightbench/sightbenchlaw09.BeltTracks", spec := "beltTracks", unfollowed := true, recurses := true, apart := false }
def BeltTracksSaid : Prop := beltTracksRow.holds Try.pinned (OpenSpec.ofChange beltTracksSpec)

/-- ITS FALSE NEIGHBOUR: 'it returns false'. Refute it at one input. -/
def beltTracksWrong : ChangeSpec := { name := "beltTracks", fn := fun _ => fun
  | [d1, d2, d3] => { results := [.lit (.bool false)], args := [d1, d2, d3] }
  | _ => none }
def BeltTracksWrongFalsely : Prop := beltTracksRow.holds Try.pinned (OpenSpec.ofChange beltTracksWrong)

/-- 'sightbenchlaw09.BeltAdvances': WHATEVER THE INPUT: true; the input reads as it did. -/
def beltAdvancesSpec : ChangeSpec := { name := "beltAdvances", fn := fun _ => fun
  | [d1, d2] => { results := [.lit (.bool true)], args := [d1, d2] }
  | _ => none }
def beltAdvancesRow : OpenClaim := { program := "ytnkpejinnbiocaa", sum := "3a2bdcd94e6a6b92a0c30b6814c26f6803f86c895ac42f468e7783442e6f901a", func := "sightbench/sightbenchlaw09.BeltAdvances", spec := "beltAdvances", unfollowed := true, recurses := true, apart := false }
def BeltAdvancesSaid : Prop := beltAdvancesRow.holds Try.pinned (OpenSpec.ofChange beltAdvancesSpec)

/-- ITS FALSE NEIGHBOUR: 'it returns false'. Refute it at one input. -/
def beltAdvancesWrong : ChangeSpec := { name := "beltAdvances", fn := fun _ => fun
  | [d1, d2] => { results := [.lit (.bool false)], args := [d1, d2] }
  | _ => none }
def BeltAdvancesWrongFalsely : Prop := beltAdvancesRow.holds Try.pinned (OpenSpec.ofChange beltAdvancesWrong)

/-- 'sightbenchlaw09.BeltMatches': WHATEVER THE INPUT: true; the input reads as it did. -/
def beltMatchesSpec : ChangeSpec := { name := "beltMatches", fn := fun _ => fun
  | [d1, d2, d3] => { results := [.lit (.bool true)], args := [d1, d2, d3] }
  | _ => none }
def beltMatchesRow : OpenClaim := { program := "ytnkpejinnbiocaa", sum := "3a2bdcd94e6a6b92a0c30b6814c26f6803f86c895ac42f468e7783442e6f901a", func := "sightbench/sightbenchlaw09.BeltMatches", spec := "beltMatches", unfollowed := true, recurses := true, apart := false }
def BeltMatchesSaid : Prop := beltMatchesRow.holds Try.pinned (OpenSpec.ofChange beltMatchesSpec)

/-- ITS FALSE NEIGHBOUR: 'it returns false'. Refute it at one input. -/
def beltMatchesWrong : ChangeSpec := { name := "beltMatches", fn := fun _ => fun
  | [d1, d2, d3] => { results := [.lit (.bool false)], args := [d1, d2, d3] }
  | _ => none }
def BeltMatchesWrongFalsely : Prop := beltMatchesRow.holds Try.pinned (OpenSpec.ofChange beltMatchesWrong)

/-- 'sightbenchlaw09.BeltHit': WHATEVER THE INPUT: true; the input reads as it did. -/
def beltHitSpec : ChangeSpec := { name := "beltHit", fn := fun _ => fun
  | [d1, d2, d3, d4] => { results := [.lit (.bool true)], args := [d1, d2, d3, d4] }
  | _ => none }
def beltHitRow : OpenClaim := { program := "ytnkpejinnbiocaa", sum := "3a2bdcd94e6a6b92a0c30b6814c26f6803f86c895ac42f468e7783442e6f901a", func := "sightbench/sightbenchlaw09.BeltHit", spec := "beltHit", unfollowed := true, recurses := true, apart := false }
def BeltHitSaid : Prop := beltHitRow.holds Try.pinned (OpenSpec.ofChange beltHitSpec)

/-- ITS FALSE NEIGHBOUR: 'it returns false'. Refute it at one input. -/
def beltHitWrong : ChangeSpec := { name := "beltHit", fn := fun _ => fun
  | [d1, d2, d3, d4] => { results := [.lit (.bool false)], args := [d1, d2, d3, d4] }
  | _ => none }
def BeltHitWrongFalsely : Prop := beltHitRow.holds Try.pinned (OpenSpec.ofChange beltHitWrong)

/- THE SECOND FORM. 'bulk': how many values and letters a reading holds, each counted each time it is reached (what is shared counts as often as it is met; a slice's spare places count too). A statement '..UptoSaid' is the law's where the arguments, and the package variables that the reading takes, are together of bulk at most 1048576: NARROWER than '..Said'. Prove '..Said' where nothing that the law and all that it calls make is longer than what came in: it says more and counts as full. Else prove '..UptoSaid'. A law counts once. -/
mutual
def uptoBulk {H : Type} : DataW H → Nat
  | .lit (.string bytes) => bytes.length + 1
  | .lit _ => 1
  | .nil => 1
  | .ptr d => uptoBulk d + 1
  | .slice elems spare => uptoBulkAll elems + uptoBulkAll spare + 1
  | .agg parts => uptoBulkAll parts + 1
  | .iface _ d => uptoBulk d + 1
  | .map entries => uptoBulkEntries entries + 1
  | .held _ => 1
def uptoBulkAll {H : Type} : List (DataW H) → Nat
  | [] => 0
  | d :: r => uptoBulk d + uptoBulkAll r
def uptoBulkEntries {H : Type} : List (Lit × DataW H) → Nat
  | [] => 0
  | x :: r => uptoBulkEntry x + uptoBulkEntries r
def uptoBulkEntry {H : Type} : Lit × DataW H → Nat
  | (.string bytes, d) => bytes.length + uptoBulk d + 1
  | (_, d) => uptoBulk d + 1
 end
def uptoSmall : (H : Type) → List (DataW H) → Bool := fun _ ds => decide (uptoBulkAll ds ≤ 1048576)
def OpenSpec.upto (s : _root_.Go.ChangeSpec) : _root_.Go.OpenSpec := { _root_.Go.OpenSpec.ofChange s with cond := some uptoSmall }

/-- 'sightbenchlaw09.BeltTracks', WHERE WHAT IT READS IS OF BULK AT MOST 1048576: true; the input reads as it did. -/
def beltTracksUptoRow : OpenClaim := { program := "ytnkpejinnbiocaa", sum := "3a2bdcd94e6a6b92a0c30b6814c26f6803f86c895ac42f468e7783442e6f901a", func := "sightbench/sightbenchlaw09.BeltTracks", spec := "beltTracks", unfollowed := true, recurses := true, apart := false, narrowed := true }
def BeltTracksUptoSaid : Prop := beltTracksUptoRow.holds Try.pinned (OpenSpec.upto beltTracksSpec)

/-- 'sightbenchlaw09.BeltAdvances', WHERE WHAT IT READS IS OF BULK AT MOST 1048576: true; the input reads as it did. -/
def beltAdvancesUptoRow : OpenClaim := { program := "ytnkpejinnbiocaa", sum := "3a2bdcd94e6a6b92a0c30b6814c26f6803f86c895ac42f468e7783442e6f901a", func := "sightbench/sightbenchlaw09.BeltAdvances", spec := "beltAdvances", unfollowed := true, recurses := true, apart := false, narrowed := true }
def BeltAdvancesUptoSaid : Prop := beltAdvancesUptoRow.holds Try.pinned (OpenSpec.upto beltAdvancesSpec)

/-- 'sightbenchlaw09.BeltMatches', WHERE WHAT IT READS IS OF BULK AT MOST 1048576: true; the input reads as it did. -/
def beltMatchesUptoRow : OpenClaim := { program := "ytnkpejinnbiocaa", sum := "3a2bdcd94e6a6b92a0c30b6814c26f6803f86c895ac42f468e7783442e6f901a", func := "sightbench/sightbenchlaw09.BeltMatches", spec := "beltMatches", unfollowed := true, recurses := true, apart := false, narrowed := true }
def BeltMatchesUptoSaid : Prop := beltMatchesUptoRow.holds Try.pinned (OpenSpec.upto beltMatchesSpec)

/-- 'sightbenchlaw09.BeltHit', WHERE WHAT IT READS IS OF BULK AT MOST 1048576: true; the input reads as it did. -/
def beltHitUptoRow : OpenClaim := { program := "ytnkpejinnbiocaa", sum := "3a2bdcd94e6a6b92a0c30b6814c26f6803f86c895ac42f468e7783442e6f901a", func := "sightbench/sightbenchlaw09.BeltHit", spec := "beltHit", unfollowed := true, recurses := true, apart := false, narrowed := true }
def BeltHitUptoSaid : Prop := beltHitUptoRow.holds Try.pinned (OpenSpec.upto beltHitSpec)

end Rows
end Go.Proofs.Ytnkpejinnbiocaa
