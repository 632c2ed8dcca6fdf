/-
  Layer 1: the calls on fractions, for any fractions.
-/
import Derived.Test.YticclcimelibdaaArith
import Derived.Test.YticclcimelibdaaCheck
namespace Go.Proofs.Yticclcimelibdaa
open Go.RowKit

theorem ck2_ok {q r : Rat} (hq : fits q) (hr : fits r) : ck2 (fn q) (fd q) (fn r) (fd r) = 0 := (if_pos (okF_q hq)).trans (ck_ok (okF_q hr))
theorem ck2_no {a b c d : Int} (h : ¬ (okF a b ∧ okF c d)) : ck2 a b c d = 8 := by
  unfold ck2
  by_cases k : okF a b
  · rw [if_pos k]; exact ck_no (fun x => h ⟨k, x⟩)
  · exact if_neg k

end Go.Proofs.Yticclcimelibdaa
