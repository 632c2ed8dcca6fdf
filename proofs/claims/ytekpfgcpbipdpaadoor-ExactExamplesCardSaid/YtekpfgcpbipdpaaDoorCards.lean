/-
  DERIVED. GIVEN WITH THE SEED: THE CARDS: each row of YtekpfgcpbipdpaaDoorRows.lean that lists a variable, with what it lists TIED to the program's text (the seventh form; the later family's looks); each row that meets fmt, with fmt's text TOLD by the authors' own Lean function (tested against real Go, not proved from fmt's source: count such statements apart). THE CARD IS WHAT COUNTS. Prove the row's statement (the work); the ties are given (YtekpfgcpbipdpaaDoorTie.lean); close each card by the builder's one call (the guide's Derived/Test/ToyasCard.lean, 'card_holds'). Laid BY PROGRAM, IN A SANDBOX (cutbox-door.mjs). By AI agents, Wed Nov 11 2026. No macro, syntax, notation, axiom, sorry.
-/
import Derived.Test.YtekpfgcpbipdpaaDoorRows
import GoSem.ClaimSeven
namespace Go.Proofs.YtekpfgcpbipdpaaDoor
namespace Rows

/-- THE TIED CARD OF 'sightbenchlaw01.ExactExamples'. -/
def exactExamplesCard : Claim7 := { stood := { row := exactExamplesRow, standIns := [], harness := (true, "2b9e2e1bce6c9df4c8bf212deb5dd1e165b86feb617f1350754da4f7763b4cd5"), looks := true }, kinds := [], alts := [], laidByText := true, laidKinds := [.data, .data, .data, .sentinel, .sentinel], laidTests := true, laidLooks := .later }
def ExactExamplesCardSaid : Prop := Claim7.holds Tryd.pinned (.plain (OpenSpec.ofChange exactExamplesSpec)) exactExamplesCard

/-- THE TIED CARD OF 'sightbenchlaw01.ExactWholes'. -/
def exactWholesCard : Claim7 := { stood := { row := exactWholesRow, standIns := [], harness := (true, "2b9e2e1bce6c9df4c8bf212deb5dd1e165b86feb617f1350754da4f7763b4cd5"), looks := true }, kinds := [], alts := [], laidByText := true, laidKinds := [.data, .data, .data, .sentinel, .sentinel], laidTests := true, laidLooks := .later }
def ExactWholesCardSaid : Prop := Claim7.holds Tryd.pinned (.plain (OpenSpec.ofChange exactWholesSpec)) exactWholesCard

/-- THE TIED CARD OF 'sightbenchlaw01.ExactTextBack'. -/
def exactTextBackCard : Claim7 := { stood := { row := exactTextBackRow, standIns := [], harness := (true, "2b9e2e1bce6c9df4c8bf212deb5dd1e165b86feb617f1350754da4f7763b4cd5"), looks := true }, kinds := [], alts := [], laidByText := true, laidKinds := [.data, .data, .data, .sentinel, .sentinel], laidTests := true, laidLooks := .later }
def ExactTextBackCardSaid : Prop := Claim7.holds Tryd.pinned (.plain (OpenSpec.ofChange exactTextBackSpec)) exactTextBackCard

/-- THE TIED CARD OF 'sightbenchlaw01.ExactMeets'. -/
def exactMeetsCard : Claim7 := { stood := { row := exactMeetsRow, standIns := [], harness := (true, "2b9e2e1bce6c9df4c8bf212deb5dd1e165b86feb617f1350754da4f7763b4cd5"), looks := true }, kinds := [], alts := [], laidByText := true, laidKinds := [.data, .data, .data], laidTests := true, laidLooks := .later }
def ExactMeetsCardSaid : Prop := Claim7.holds Tryd.pinned (.plain (OpenSpec.ofChange exactMeetsSpec)) exactMeetsCard

/-- THE SECOND FORM's CARD OF 'sightbenchlaw01.ExactExamples'. -/
def exactExamplesUptoCard : Claim7 := { stood := { row := exactExamplesUptoRow, standIns := [], harness := (true, "2b9e2e1bce6c9df4c8bf212deb5dd1e165b86feb617f1350754da4f7763b4cd5"), looks := true }, kinds := [], alts := [], laidByText := true, laidKinds := [.data, .data, .data, .sentinel, .sentinel], laidTests := true, laidLooks := .later }
def ExactExamplesUptoCardSaid : Prop := Claim7.holds Tryd.pinned (.plain (OpenSpec.upto exactExamplesSpec)) exactExamplesUptoCard

/-- THE SECOND FORM's CARD OF 'sightbenchlaw01.ExactWholes'. -/
def exactWholesUptoCard : Claim7 := { stood := { row := exactWholesUptoRow, standIns := [], harness := (true, "2b9e2e1bce6c9df4c8bf212deb5dd1e165b86feb617f1350754da4f7763b4cd5"), looks := true }, kinds := [], alts := [], laidByText := true, laidKinds := [.data, .data, .data, .sentinel, .sentinel], laidTests := true, laidLooks := .later }
def ExactWholesUptoCardSaid : Prop := Claim7.holds Tryd.pinned (.plain (OpenSpec.upto exactWholesSpec)) exactWholesUptoCard

/-- THE SECOND FORM's CARD OF 'sightbenchlaw01.ExactTextBack'. -/
def exactTextBackUptoCard : Claim7 := { stood := { row := exactTextBackUptoRow, standIns := [], harness := (true, "2b9e2e1bce6c9df4c8bf212deb5dd1e165b86feb617f1350754da4f7763b4cd5"), looks := true }, kinds := [], alts := [], laidByText := true, laidKinds := [.data, .data, .data, .sentinel, .sentinel], laidTests := true, laidLooks := .later }
def ExactTextBackUptoCardSaid : Prop := Claim7.holds Tryd.pinned (.plain (OpenSpec.upto exactTextBackSpec)) exactTextBackUptoCard

/-- THE SECOND FORM's CARD OF 'sightbenchlaw01.ExactMeets'. -/
def exactMeetsUptoCard : Claim7 := { stood := { row := exactMeetsUptoRow, standIns := [], harness := (true, "2b9e2e1bce6c9df4c8bf212deb5dd1e165b86feb617f1350754da4f7763b4cd5"), looks := true }, kinds := [], alts := [], laidByText := true, laidKinds := [.data, .data, .data], laidTests := true, laidLooks := .later }
def ExactMeetsUptoCardSaid : Prop := Claim7.holds Tryd.pinned (.plain (OpenSpec.upto exactMeetsSpec)) exactMeetsUptoCard
end Rows
end Go.Proofs.YtekpfgcpbipdpaaDoor
