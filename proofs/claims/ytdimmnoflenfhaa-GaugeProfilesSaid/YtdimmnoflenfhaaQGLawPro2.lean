/-
  GaugeProfiles is true for any profile.
-/
import Derived.Test.YtdimmnoflenfhaaQGLawPro
import Derived.Test.YtdimmnoflenfhaaP3
import Derived.Test.YtdimmnoflenfhaaP2
namespace Go.Proofs.Ytdimmnoflenfhaa
open Go.RowKit Go.Shelf
set_option linter.unusedVariables false
set_option linter.unusedSimpArgs false

theorem lawPro_true (a : Option Addr) (n c : Nat) (zs : List Int) (t p y : Int) (hn : n ≤ maxLen) (w : World) (hR : Row w a n (iv zs)) :
    Calls Try.prog 4 #[.slice a n c, .int .i64 t, .int .i64 p, .int .i64 y] w fun e w' => e = .returned (.bool true) ∧ Below w.heap.size w w' := by
  by_cases h : n ≤ 100
  · have hl : zs.length = n := by have := hR.1; rwa [iv_length] at this
    have F1 := Lib.hid fun (a : Option Addr) (c : Nat) (w : World) (hR : Row w a n (iv zs)) => first_any a n c zs t p hn w hR
    have F2 := Lib.hid fun (a : Option Addr) (c : Nat) (w : World) (hR : Row w a n (iv zs)) => rfirst_any a n c zs t p hn w hR
    have L1 := Lib.hid fun (a : Option Addr) (c : Nat) (w : World) (hR : Row w a n (iv zs)) => last_any a n c zs t p hn w hR
    have L2 := Lib.hid fun (a : Option Addr) (c : Nat) (w : World) (hR : Row w a n (iv zs)) => rlast_any a n c zs t p hn w hR
    have K1 := Lib.hid fun (a : Option Addr) (c : Nat) (w : World) (hR : Row w a n (iv zs)) => ckP_any a n c zs hn w hR
    have K2 := Lib.hid fun (a : Option Addr) (c : Nat) (w : World) (hR : Row w a n (iv zs)) => rcheck_any a n c zs hn w hR
    by_cases g : okP zs ∧ okN y
    · exact prof_ok a n c zs t p y _ _ _ _ _ _ _ (upL y zs) (lwL y zs) (Lib.hid (by unfold upL; rw [List.length_map]; exact hl)) (Lib.hid (by unfold lwL; rw [List.length_map]; exact hl)) h w hR F1 F2 L1 L2 K1 K2
        (Lib.hid fun a c w hR => up_ok a n c zs y g.1 g.2 w hR) (Lib.hid fun a c w hR => rup_ok a n c zs y g.1 g.2 w hR) (Lib.hid fun a c w hR => lw_ok a n c zs y g.1 g.2 w hR) (Lib.hid fun a c w hR => rlw_ok a n c zs y g.1 g.2 w hR)
    · exact prof_no a n c zs t p y _ _ _ _ _ _ _ _ h w hR F1 F2 L1 L2 K1 K2
        (Lib.hid fun a c w hR => up_no a n c zs y hn g w hR) (Lib.hid fun a c w hR => rup_no a n c zs y hn g w hR) (Lib.hid fun a c w hR => lw_no a n c zs y hn g w hR) (Lib.hid fun a c w hR => rlw_no a n c zs y hn g w hR)
  · exact prof_long a n c zs t p y w hn (by omega)
end Go.Proofs.Ytdimmnoflenfhaa
