/-
  A list of bytes among the arguments of a law.
-/
import Derived.Test.YtbcnoklaaigclaaJFrame
import Derived.Test.YtbcnoklaaigclaaVMov
namespace Go.Proofs.Ytbcnoklaaigclaa
open Go.ChangeShapes Go.WideShapes Go.ChangeAt Go.RowKit
set_option linter.unusedVariables false
set_option linter.unusedSimpArgs false

section
variable {H : Type} {enc : TypeId × Value → H}
theorem row_u8s {W : World} {fuel : Nat} {v : Value} {x : DataW H × List MemPlace} (h : DataW.trod enc Try.prog W 0 (fun _ => true) true fuel 81 [v] = some x) :
    ∃ (a : Option Addr) (n c : Nat) (zs : List Int), v = .slice a n c ∧ n ≤ c ∧ c ≤ maxLen ∧ RowK 1 u81 W a n zs ∧ (∀ z ∈ zs, 0 ≤ z ∧ z ≤ 255) := by
  rcases open_ints Try.underlying81 Try.underlying5 (by kernel_rfl) h with ⟨hcs, _⟩ | ⟨a, len, cap, zs, hcs, _, hl, hm, hz, hxx, hcell, hwz⟩
  · simp only [List.cons.injEq, and_true] at hcs
    exact ⟨none, 0, 0, [], hcs, Nat.le_refl _, Nat.zero_le _, RowK.nil _ _, fun z hz => by simp at hz⟩
  · simp only [List.cons.injEq, and_true] at hcs
    have hz' : zs.length = cap := by simpa using hz
    have hlen : (zs.take len).length = len := by rw [List.length_take]; omega
    refine ⟨some a, len, cap, zs.take len, hcs, hl, hm, ⟨hlen, fun h0 => ?_⟩, fun z hz => bounds_u8 (hwz z (List.mem_of_mem_take hz))⟩
    obtain ⟨b, off, rfl, hc⟩ := ints_at hcell (by omega)
    refine ⟨b, off, rfl, ?_, fun j x hx i u hu => ?_⟩
    · have := hc 0 (by omega)
      unfold World.cell? at this
      by_cases hb : b < W.heap.size
      · exact hb
      · simp [Array.getElem?_eq_none (show W.heap.size ≤ b by omega)] at this
    · have hj : j < len := by
        have := (List.getElem?_eq_some_iff.1 hx).1
        omega
      have hi : i = 0 := by
        rcases i with _ | i
        · rfl
        · simp [u81] at hu
      subst hi
      have e : u = .int .u8 x := by simpa [u81] using hu.symm
      subst e
      rw [List.getElem?_take_of_lt hj] at hx
      have := hc j (by omega)
      rw [Nat.mul_one, Nat.add_zero, this, List.getD_eq_getElem?_getD, hx]
      rfl
set_option maxRecDepth 100000 in
theorem open_u8s {W : World} {b0 : Nat} {r : Reach} {v : Value} {d : DataW H} {p : List MemPlace} (hval : Value.okWide Try.prog W r b0 81 v) (h : DataW.Trod enc Try.prog W 0 (fun _ => true) true 81 v d p) :
    ∃ (a : Option Addr) (n c : Nat) (zs : List Int), v = .slice a n c ∧ n ≤ c ∧ c ≤ maxLen ∧ RowK 1 u81 W a n zs ∧ (∀ z ∈ zs, 0 ≤ z ∧ z ≤ 255) := by
  obtain ⟨a0, n0, c0, rfl⟩ := okWide_slice Try.underlying81 hval
  obtain ⟨fuel, hf⟩ := h
  obtain ⟨a, n, c, zs, e, q1, q2, q3, q4⟩ := row_u8s (x := (d, p)) hf
  exact ⟨a, n, c, zs, e, q1, q2, q3, q4⟩
end
end Go.Proofs.Ytbcnoklaaigclaa
