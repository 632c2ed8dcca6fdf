/-
  What these laws ask besides of the texts that the laws of this seat share.
-/
import Derived.Test.YtbdcmdofmokoeaaR1
import Derived.Test.YtbdcmdofmokoeaaR2
import Derived.Test.YtbdcmdofmokoeaaR3
import Derived.Test.YtbdcmdofmokoeaaR4
import Derived.Test.YtbdcmdofmokoeaaR5
import Derived.Test.YtbdcmdofmokoeaaR6
import Derived.Test.YtbdcmdofmokoeaaR7
import Derived.Test.YtbdcmdofmokoeaaR8
import Derived.Test.YtbdcmdofmokoeaaR9
import Derived.Test.YtbdcmdofmokoeaaR10
import Derived.Test.YtbdcmdofmokoeaaR11
namespace Go.Proofs.Ytbdcmdofmokoeaa
open Go.RowKit Go.Shelf
set_option linter.unusedVariables false
set_option linter.unusedSimpArgs false

instance : DecidableEq (Rat × Rat) := inferInstance
theorem ckV_yes {vs : List Vw} (h1 : vs.length ≤ 12) (h2 : ∀ v ∈ vs, InV v) : ckV vs = 0 := (if_neg (by omega)).trans (if_pos h2)
end Go.Proofs.Ytbdcmdofmokoeaa

namespace Go.Proofs.Ytbdcmdofmokoeaa
open Go.RowKit Go.Shelf
set_option linter.unusedVariables false
set_option linter.unusedSimpArgs false

theorem raC_four (x z : Int) (vs : List Vw) : ∃ r1 r2 r3 r4 : Int, raC x z vs = #[.int .i64 r1, .int .i64 r2, .int .i64 r3, .int .i64 r4] := by
  unfold raC
  split
  · cases plaS x z vs with
    | none => exact ⟨0, 0, 0, 0, rfl⟩
    | some p => exact ⟨_, _, _, _, rfl⟩
  · exact ⟨0, 0, 0, 0, rfl⟩
end Go.Proofs.Ytbdcmdofmokoeaa

namespace Go.Proofs.Ytbdcmdofmokoeaa
open Go.RowKit Go.Shelf
set_option linter.unusedVariables false
set_option linter.unusedSimpArgs false

theorem caV_eight (vs : List Vw) : ∃ c1 c2 c3 c4 c5 c6 c7 c8 : Int, caV vs = #[.int .i64 c1, .int .i64 c2, .int .i64 c3, .int .i64 c4, .int .i64 c5, .int .i64 c6, .int .i64 c7, .int .i64 c8] := by
  unfold caV
  split
  · unfold caC
    split
    · exact ⟨_, _, _, _, _, _, _, _, rfl⟩
    · exact ⟨0, 0, 0, 0, 0, 0, 0, 0, rfl⟩
  · exact ⟨0, 0, 0, 0, 0, 0, 0, 0, rfl⟩
end Go.Proofs.Ytbdcmdofmokoeaa

