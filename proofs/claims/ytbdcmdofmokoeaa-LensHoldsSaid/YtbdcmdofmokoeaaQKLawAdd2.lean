/-
  What these laws ask besides of the texts that the laws of this seat share.
-/
import Derived.Laws.BitsAll
import Derived.Laws.BitsAllLaws
import Derived.Test.YtbdcmdofmokoeaaR1
import Derived.Test.YtbdcmdofmokoeaaR2
import Derived.Test.YtbdcmdofmokoeaaR3
import Derived.Test.YtbdcmdofmokoeaaR4
import Derived.Test.YtbdcmdofmokoeaaR5
import Derived.Test.YtbdcmdofmokoeaaR6
import Derived.Test.YtbdcmdofmokoeaaR7
import Derived.Test.YtbdcmdofmokoeaaR8
import Derived.Test.YtbdcmdofmokoeaaR9
import Derived.Test.YtbdcmdofmokoeaaR10
import Derived.Test.YtbdcmdofmokoeaaR11
namespace Go.Proofs.Ytbdcmdofmokoeaa
open Go.RowKit
set_option linter.unusedVariables false
set_option linter.unusedSimpArgs false

set_option maxHeartbeats 400000 in
theorem rwithin_yes (n lo hi : Int) (h1 : lo ≤ n) (h2 : n ≤ hi) (w : World) :
    Calls Try.prog 71 #[.int .i64 n, .int .i64 lo, .int .i64 hi] w fun e w' => e = .returned (.bool true) ∧ w = w' := by
  go_enter Try.func71, Try.ntmps71
  go_wp2
  go_ret
  exact ⟨rfl, rfl⟩
set_option maxHeartbeats 400000 in
theorem rwithin_no (n lo hi : Int) (h : ¬ (lo ≤ n ∧ n ≤ hi)) (w : World) :
    Calls Try.prog 71 #[.int .i64 n, .int .i64 lo, .int .i64 hi] w fun e w' => e = .returned (.bool false) ∧ w = w' := by
  by_cases h1 : lo ≤ n
  · have hd : decide (n ≤ hi) = false := by simp; omega
    clear h
    go_enter Try.func71, Try.ntmps71
    go_wp2
    go_ret
    exact ⟨by first | rfl | simp, rfl⟩
  · clear h
    go_enter Try.func71, Try.ntmps71
    go_wp2
    go_ret
    exact ⟨by first | rfl | simp, rfl⟩
end Go.Proofs.Ytbdcmdofmokoeaa

namespace Go.Proofs.Ytbdcmdofmokoeaa
open Go.RowKit Go.Shelf
set_option linter.unusedVariables false
set_option linter.unusedSimpArgs false

instance : DecidableEq (Rat × Rat) := inferInstance
theorem ckV_yes {vs : List Vw} (h1 : vs.length ≤ 12) (h2 : ∀ v ∈ vs, InV v) : ckV vs = 0 := (if_neg (by omega)).trans (if_pos h2)
end Go.Proofs.Ytbdcmdofmokoeaa

