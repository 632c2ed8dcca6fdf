/-
  Lists of whole numbers among the arguments of a law, as rows.
-/
import Derived.Test.YtnkpejinnbiocaaVOpT
import Derived.Test.YtnkpejinnbiocaaVMtd
namespace Go.Proofs.Ytnkpejinnbiocaa
open Go.RowKit Go.Shelf
set_option linter.unusedVariables false
set_option linter.unusedSimpArgs false

theorem rowKI {w : World} {a : Option Addr} {n : Nat} {xs : List Int} (h : Row w a n (iv xs)) : RowK 1 in1 w a n xs := by
  have hl := h.1
  rw [iv_length] at hl
  refine ⟨hl, fun hn => ?_⟩
  obtain ⟨b, off, ha, hlt, hc⟩ := h.2 hn
  refine ⟨b, off, ha, hlt, fun j x hx i v hv => ?_⟩
  rcases i with _ | i
  · have hv : some (Value.int .i64 x) = some v := hv
    cases hv
    have hj : j < n := by
      have := (List.getElem?_eq_some_iff.1 hx).1
      omega
    rw [Nat.mul_one, Nat.add_zero, hc j hj, iv_get, hx]
    rfl
  · simp [in1] at hv
end Go.Proofs.Ytnkpejinnbiocaa
