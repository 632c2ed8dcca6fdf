/-
  Plain arithmetic for the document's own answers: numbers of two words, and a division bit by bit.
-/
import Derived.Test.YtcafmmhjlecgpaaWMath
import Derived.Test.YtcafmmhjlecgpaaQMath
namespace Go.Proofs.Ytcafmmhjlecgpaa

theorem less_iff (a b : Int) (a0 : 0 ≤ a) (a1 : a < 340282366920938463463374607431768211456) (b0 : 0 ≤ b) (b1 : b < 340282366920938463463374607431768211456) :
    (whi a < whi b ∨ (whi a = whi b ∧ wlo a < wlo b)) ↔ a < b := by
  unfold whi wlo B64; omega
theorem same_iff (a b : Int) (a0 : 0 ≤ a) (a1 : a < 340282366920938463463374607431768211456) (b0 : 0 ≤ b) (b1 : b < 340282366920938463463374607431768211456) :
    (whi a = whi b ∧ wlo a = wlo b) ↔ a = b := by
  unfold whi wlo B64; omega
theorem wlo_odd (q : Int) : wlo (2 * q + 1) = wlo (2 * q) + 1 ∧ whi (2 * q + 1) = whi (2 * q) := by
  unfold whi wlo B64; omega
theorem step_part (A b t : Int) (hb : 1 ≤ b) (t0 : 0 ≤ t) (t1 : t ≤ 1) :
    (2 * (A % b) + t < b → (2 * A + t) / b = 2 * (A / b) ∧ (2 * A + t) % b = 2 * (A % b) + t) ∧ (¬ 2 * (A % b) + t < b → (2 * A + t) / b = 2 * (A / b) + 1 ∧ (2 * A + t) % b = 2 * (A % b) + t - b) := by
  have r0 := Int.emod_nonneg A (show b ≠ 0 by omega)
  have r1 := Int.emod_lt_of_pos A (show 0 < b by omega)
  have e := Int.mul_ediv_add_emod A b
  generalize A / b = q at *
  generalize A % b = r at *
  constructor <;> intro h
  · have := (Int.ediv_emod_unique (a := 2 * A + t) (b := b) (r := 2 * r + t) (q := 2 * q) (by omega)).2 ⟨by rw [← e]; grind, by omega, by omega⟩
    exact ⟨this.1, this.2⟩
  · have := (Int.ediv_emod_unique (a := 2 * A + t) (b := b) (r := 2 * r + t - b) (q := 2 * q + 1) (by omega)).2 ⟨by rw [← e]; grind, by omega, by omega⟩
    exact ⟨this.1, this.2⟩
theorem half_up (a : Int) (k : Nat) : a / 2 ^ k = 2 * (a / 2 ^ (k + 1)) + a / 2 ^ k % 2 := by
  rw [Int.pow_succ, ← Int.ediv_ediv_of_nonneg (by exact Int.le_of_lt (Int.pow_pos (by decide)))]; omega
theorem bit_hi (a : Int) (j : Nat) (a0 : 0 ≤ a) (a1 : a < 340282366920938463463374607431768211456) : whi a / 2 ^ j % 2 = a / 2 ^ (j + 64) % 2 := by
  have e : whi a = a / 2 ^ 64 := by unfold whi B64; omega
  rw [e, Int.ediv_ediv_of_nonneg (by decide), ← Int.pow_add, Nat.add_comm]
theorem bit_lo (a : Int) (j : Nat) (hj : j < 64) : wlo a / 2 ^ j % 2 = a / 2 ^ j % 2 := by
  have e : a = wlo a + 2 ^ 64 * (a / 2 ^ 64) := by unfold wlo B64; omega
  have e2 : (2 : Int) ^ 64 = 2 ^ j * (2 * 2 ^ (63 - j)) := by
    rw [← Int.mul_assoc, ← Int.pow_succ, ← Int.pow_add]; congr 1; omega
  generalize a / 2 ^ 64 = c at *
  have hp : (2 : Int) ^ j ≠ 0 := by exact Int.ne_of_gt (Int.pow_pos (by decide))
  have e3 : a / 2 ^ j = wlo a / 2 ^ j + 2 * (2 ^ (63 - j) * c) := by
    conv => lhs; rw [e]
    rw [e2, Int.mul_assoc, Int.add_mul_ediv_left _ _ hp, Int.mul_assoc]
  rw [e3]; omega
end Go.Proofs.Ytcafmmhjlecgpaa
