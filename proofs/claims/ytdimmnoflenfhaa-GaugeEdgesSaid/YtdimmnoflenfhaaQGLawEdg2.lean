/-
  GaugeEdges is true for any profile.
-/
import Derived.Test.YtdimmnoflenfhaaQGLawEdg
import Derived.Test.YtdimmnoflenfhaaV3
namespace Go.Proofs.Ytdimmnoflenfhaa
open Go.RowKit Go.Shelf
set_option linter.unusedVariables false
set_option linter.unusedSimpArgs false

theorem lawEdg_true (a : Option Addr) (n c : Nat) (zs : List Int) (t p y : Int) (hn : n ≤ maxLen) (w : World) (hR : Row w a n (iv zs)) :
    Calls Try.prog 5 #[.slice a n c, .int .i64 t, .int .i64 p, .int .i64 y] w fun e w' => e = .returned (.bool true) ∧ Below w.heap.size w w' := by
  by_cases h : n ≤ 100
  · exact edge_all a n c zs t p y _ _ _ _ _ _ _ _ _ _ _ _ _ _ _ h w hR
      (Lib.hid fun a c w hR => ri_any a n c zs t p y hn w hR) (Lib.hid fun a c w hR => rri_any a n c zs t p y hn w hR)
      (Lib.hid fun a c w hR => fa_any a n c zs t p y hn w hR) (Lib.hid fun a c w hR => rfa_any a n c zs t p y hn w hR)
      (Lib.hid fun a c w hR => wi_any a n c zs t y hn w hR) (Lib.hid fun a c w hR => rwi_any a n c zs t y hn w hR)
  · exact edge_long a n c zs t p y w hn (by omega)
end Go.Proofs.Ytdimmnoflenfhaa
