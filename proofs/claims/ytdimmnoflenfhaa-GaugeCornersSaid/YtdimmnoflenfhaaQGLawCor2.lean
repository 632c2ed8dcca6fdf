/-
  GaugeCorners is true for any two lines.
-/
import Derived.Test.YtdimmnoflenfhaaR13
import Derived.Test.YtdimmnoflenfhaaQGLawCor
namespace Go.Proofs.Ytdimmnoflenfhaa
open Go.RowKit Go.Shelf
set_option linter.unusedVariables false
set_option linter.unusedSimpArgs false

theorem lawCor_true (f1 f2 f3 f4 c1 c2 c3 c4 g1 g2 g3 g4 h1 h2 h3 h4 : Int) (n1 : -9223372036854775808 ≤ f1 ∧ f1 ≤ 9223372036854775807) (n2 : -9223372036854775808 ≤ f3 ∧ f3 ≤ 9223372036854775807) (n3 : -9223372036854775808 ≤ c1 ∧ c1 ≤ 9223372036854775807) (n4 : -9223372036854775808 ≤ c3 ∧ c3 ≤ 9223372036854775807) (n5 : -9223372036854775808 ≤ g1 ∧ g1 ≤ 9223372036854775807) (n6 : -9223372036854775808 ≤ g3 ∧ g3 ≤ 9223372036854775807) (n7 : -9223372036854775808 ≤ h1 ∧ h1 ≤ 9223372036854775807) (n8 : -9223372036854775808 ≤ h3 ∧ h3 ≤ 9223372036854775807) (w : World) :
    Calls Try.prog 7 #[.agg #[.int .i64 f1, .int .i64 f2, .int .i64 f3, .int .i64 f4, .int .i64 c1, .int .i64 c2, .int .i64 c3, .int .i64 c4], .agg #[.int .i64 g1, .int .i64 g2, .int .i64 g3, .int .i64 g4, .int .i64 h1, .int .i64 h2, .int .i64 h3, .int .i64 h4]] w fun e w' => e = .returned (.bool true) ∧ Below w.heap.size w w' := by
  obtain ⟨x1, x2, x3, x4, v1, v2, v3, v4, E, a1, a2⟩ := corner_both f1 f2 f3 f4 c1 c2 c3 c4 g1 g2 g3 g4 h1 h2 h3 h4 n1 n2 n3 n4 n5 n6 n7 n8
  exact lawCor_walk f1 f2 f3 f4 c1 c2 c3 c4 g1 g2 g3 g4 h1 h2 h3 h4 x1 x2 x3 x4 v1 v2 v3 v4 E w (Lib.hid a1) (Lib.hid a2)
end Go.Proofs.Ytdimmnoflenfhaa
