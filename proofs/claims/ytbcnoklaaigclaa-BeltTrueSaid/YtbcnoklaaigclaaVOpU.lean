/-
  Lists of numbers of 16 bits among the arguments of a law.
-/
import Derived.Test.YtbcnoklaaigclaaVOpT
import Derived.Test.YtbcnoklaaigclaaVOpen
import Derived.Test.YtbcnoklaaigclaaVTru
namespace Go.Proofs.Ytbcnoklaaigclaa
open Go.ChangeShapes Go.WideShapes Go.ChangeAt Go.RowKit
set_option linter.unusedVariables false
set_option linter.unusedSimpArgs false

section
variable {H : Type} {enc : TypeId × Value → H}
theorem u16_in {W : World} {base : Nat} {sp : Nat → Bool} {held : Bool} {fuel : Nat} {cs : List Value} {x : DataW H × List MemPlace} (h : DataW.trod enc Try.prog W base sp held fuel 101 cs = some x) :
    ∃ x : Int, cs = u161 x ∧ (0 ≤ x ∧ x ≤ 65535) := by
  obtain ⟨a, ha, -, wa⟩ := DataW.trod_int Try.underlying101 h
  exact ⟨a, ha, bounds_u16 wa⟩
set_option maxRecDepth 100000 in
theorem open_u16s {W : World} {b0 : Nat} {r : Reach} {v : Value} {d : DataW H} {p : List MemPlace} (hval : Value.okWide Try.prog W r b0 100 v) (h : DataW.Trod enc Try.prog W 0 (fun _ => true) true 100 v d p) :
    ∃ (a : Option Addr) (n c : Nat) (zs : List Int), v = .slice a n c ∧ n ≤ c ∧ c ≤ maxLen ∧ RowK 1 u161 W a n zs ∧ (∀ z ∈ zs, 0 ≤ z ∧ z ≤ 65535) := by
  obtain ⟨a0, n0, c0, rfl⟩ := okWide_slice Try.underlying100 hval
  obtain ⟨fuel, hf⟩ := h
  obtain ⟨a, n, c, zs, e, q1, q2, q3, q4⟩ := row_els (k := 1) (en := u161) (wf := fun x => 0 ≤ x ∧ x ≤ 65535) (y := (d, p)) Try.underlying100 (by kernel_rfl) (fun _ => rfl) (by decide) (fun _ _ _ h => u16_in h) ⟨_, _, _, rfl⟩ hf
  exact ⟨a, n, c, zs, e, q1, q2, q3, q4⟩
end
end Go.Proofs.Ytbcnoklaaigclaa
