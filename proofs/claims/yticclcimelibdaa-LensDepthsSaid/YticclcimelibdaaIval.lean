/-
  Enclosures of fractions: what the four operations make of them, as plain arithmetic.
-/
import Derived.Test.YticclcimelibdaaHull
namespace Go.Proofs.Yticclcimelibdaa

theorem loQ3 (p q r s : Rat) : loQ p [q, r, s] ≤ p ∧ loQ p [q, r, s] ≤ q ∧ loQ p [q, r, s] ≤ r ∧ loQ p [q, r, s] ≤ s ∧ (loQ p [q, r, s] = p ∨ loQ p [q, r, s] = q ∨ loQ p [q, r, s] = r ∨ loQ p [q, r, s] = s) := by
  unfold loQ; simp only [List.foldl_cons, List.foldl_nil]; grind
theorem hiQ3 (p q r s : Rat) : p ≤ hiQ p [q, r, s] ∧ q ≤ hiQ p [q, r, s] ∧ r ≤ hiQ p [q, r, s] ∧ s ≤ hiQ p [q, r, s] ∧ (hiQ p [q, r, s] = p ∨ hiQ p [q, r, s] = q ∨ hiQ p [q, r, s] = r ∨ hiQ p [q, r, s] = s) := by
  unfold hiQ; simp only [List.foldl_cons, List.foldl_nil]; grind
end Go.Proofs.Yticclcimelibdaa
