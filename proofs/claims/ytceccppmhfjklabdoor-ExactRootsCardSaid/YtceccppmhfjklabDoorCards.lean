/-
  DERIVED. GIVEN WITH THE SEED: THE CARDS: each row of YtceccppmhfjklabDoorRows.lean that lists a variable, with what it lists TIED to the program's text (the seventh form; the later family's looks); each row that meets fmt, with fmt's text TOLD by the authors' own Lean function (tested against real Go, not proved from fmt's source: count such statements apart). THE CARD IS WHAT COUNTS. Prove the row's statement (the work); the ties are given (YtceccppmhfjklabDoorTie.lean); close each card by the builder's one call (the guide's Derived/Test/ToyasCard.lean, 'card_holds'). Laid BY PROGRAM, IN A SANDBOX (cutbox-door.mjs). By AI agents, Wed Nov 11 2026. No macro, syntax, notation, axiom, sorry.
-/
import Derived.Test.YtceccppmhfjklabDoorRows
import GoSem.ClaimSeven
namespace Go.Proofs.YtceccppmhfjklabDoor
namespace Rows

/-- THE TIED CARD OF 'sightbenchlaw01.ExactWithin'. -/
def exactWithinCard : Claim7 := { stood := { row := exactWithinRow, standIns := [], harness := (true, "10459900c502f8a52d1c8ddbde7b5f12614cade87b983647b8a0f5bec948d491"), looks := false }, kinds := [], alts := [], laidByText := true, laidKinds := [.data, .data, .data], laidTests := true, laidLooks := .later }
def ExactWithinCardSaid : Prop := Claim7.holds Tryd.pinned (.plain (OpenSpec.ofChange exactWithinSpec)) exactWithinCard

/-- THE TIED CARD OF 'sightbenchlaw01.ExactMeets'. -/
def exactMeetsCard : Claim7 := { stood := { row := exactMeetsRow, standIns := [], harness := (true, "10459900c502f8a52d1c8ddbde7b5f12614cade87b983647b8a0f5bec948d491"), looks := false }, kinds := [], alts := [], laidByText := true, laidKinds := [.data, .data, .data], laidTests := true, laidLooks := .later }
def ExactMeetsCardSaid : Prop := Claim7.holds Tryd.pinned (.plain (OpenSpec.ofChange exactMeetsSpec)) exactMeetsCard

/-- THE TIED CARD OF 'sightbenchlaw01.ExactRoots'. -/
def exactRootsCard : Claim7 := { stood := { row := exactRootsRow, standIns := [], harness := (true, "10459900c502f8a52d1c8ddbde7b5f12614cade87b983647b8a0f5bec948d491"), looks := false }, kinds := [], alts := [], laidByText := true, laidKinds := [.data, .data, .data], laidTests := true, laidLooks := .later }
def ExactRootsCardSaid : Prop := Claim7.holds Tryd.pinned (.plain (OpenSpec.ofChange exactRootsSpec)) exactRootsCard

/-- THE SECOND FORM's CARD OF 'sightbenchlaw01.ExactWithin'. -/
def exactWithinUptoCard : Claim7 := { stood := { row := exactWithinUptoRow, standIns := [], harness := (true, "10459900c502f8a52d1c8ddbde7b5f12614cade87b983647b8a0f5bec948d491"), looks := false }, kinds := [], alts := [], laidByText := true, laidKinds := [.data, .data, .data], laidTests := true, laidLooks := .later }
def ExactWithinUptoCardSaid : Prop := Claim7.holds Tryd.pinned (.plain (OpenSpec.upto exactWithinSpec)) exactWithinUptoCard

/-- THE SECOND FORM's CARD OF 'sightbenchlaw01.ExactMeets'. -/
def exactMeetsUptoCard : Claim7 := { stood := { row := exactMeetsUptoRow, standIns := [], harness := (true, "10459900c502f8a52d1c8ddbde7b5f12614cade87b983647b8a0f5bec948d491"), looks := false }, kinds := [], alts := [], laidByText := true, laidKinds := [.data, .data, .data], laidTests := true, laidLooks := .later }
def ExactMeetsUptoCardSaid : Prop := Claim7.holds Tryd.pinned (.plain (OpenSpec.upto exactMeetsSpec)) exactMeetsUptoCard

/-- THE SECOND FORM's CARD OF 'sightbenchlaw01.ExactRoots'. -/
def exactRootsUptoCard : Claim7 := { stood := { row := exactRootsUptoRow, standIns := [], harness := (true, "10459900c502f8a52d1c8ddbde7b5f12614cade87b983647b8a0f5bec948d491"), looks := false }, kinds := [], alts := [], laidByText := true, laidKinds := [.data, .data, .data], laidTests := true, laidLooks := .later }
def ExactRootsUptoCardSaid : Prop := Claim7.holds Tryd.pinned (.plain (OpenSpec.upto exactRootsSpec)) exactRootsUptoCard
end Rows
end Go.Proofs.YtceccppmhfjklabDoor
