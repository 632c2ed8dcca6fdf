/-
  Plain arithmetic of words: a number of 128 bits in two's complement by its two words.
-/
import Derived.WalkKit
namespace Go.Proofs.Ytcafmmhjlecgpaa

/-- 2^64. -/
def B64 : Int := 18446744073709551616
/-- The lower and the upper word of a number. -/
def wlo (z : Int) : Int := z % B64
def whi (z : Int) : Int := z / B64 % B64
/-- The carry of the lower words' sum, of the upper words' sum; the borrows of the differences. -/
def car (a b : Int) : Int := (wlo a + wlo b) / B64
def car2 (a b : Int) : Int := (whi a + whi b + car a b) / B64
def bor (a b : Int) : Int := if wlo a < wlo b then 1 else 0
def bor2 (a b : Int) : Int := if whi a < whi b + bor a b then 1 else 0

theorem wlo_lo (z : Int) : 0 ≤ wlo z := by unfold wlo B64; omega
theorem wlo_hi (z : Int) : wlo z ≤ 18446744073709551615 := by unfold wlo B64; omega
theorem whi_lo (z : Int) : 0 ≤ whi z := by unfold whi B64; omega
theorem whi_hi (z : Int) : whi z ≤ 18446744073709551615 := by unfold whi B64; omega
theorem car_lo (a b : Int) : 0 ≤ car a b := by unfold car wlo B64; omega
theorem car_hi (a b : Int) : car a b ≤ 1 := by unfold car wlo B64; omega
theorem bor_lo (a b : Int) : 0 ≤ bor a b := by unfold bor; split <;> omega
theorem bor_hi (a b : Int) : bor a b ≤ 1 := by unfold bor; split <;> omega
theorem wlo_add (a b : Int) : wlo (a + b) = (wlo a + wlo b + 0) % 18446744073709551616 := by unfold wlo B64; omega
theorem car_add (a b : Int) : car a b = (wlo a + wlo b + 0) / 18446744073709551616 := by unfold car wlo B64; omega
theorem whi_add (a b : Int) : whi (a + b) = (whi a + whi b + car a b) % 18446744073709551616 := by unfold whi car wlo B64; omega
theorem car2_add (a b : Int) : car2 a b = (whi a + whi b + car a b) / 18446744073709551616 := by unfold car2 B64; rfl
theorem wlo_sub (a b : Int) : wlo (a - b) = (wlo a + 18446744073709551616 - wlo b) % 18446744073709551616 := by unfold wlo B64; omega
theorem whi_sub (a b : Int) : whi (a - b) = (whi a + 18446744073709551616 - whi b - bor a b) % 18446744073709551616 := by
  unfold whi bor wlo B64; split <;> omega
theorem wlo_of (n : Int) (h0 : 0 ≤ n) (h1 : n ≤ 18446744073709551615) : wlo n = n := by unfold wlo B64; omega
theorem whi_of (n : Int) (h0 : 0 ≤ n) (h1 : n ≤ 18446744073709551615) : whi n = 0 := by unfold whi B64; omega
/-- A number within 127 bits and a sign is told by its words. -/
theorem zero_of (z : Int) (h0 : -170141183460469231731687303715884105728 ≤ z) (h1 : z < 170141183460469231731687303715884105728) : (whi z = 0 ∧ wlo z = 0) ↔ z = 0 := by
  unfold whi wlo B64; omega
theorem neg_of (z : Int) (h0 : -170141183460469231731687303715884105728 ≤ z) (h1 : z < 170141183460469231731687303715884105728) : 9223372036854775808 ≤ whi z ↔ z < 0 := by
  unfold whi B64; omega
theorem pos_whi (z : Int) (h0 : 0 ≤ z) (h1 : z < 170141183460469231731687303715884105728) : z = whi z * 18446744073709551616 + wlo z := by
  unfold whi wlo B64; omega

/-- The size of a number. -/
def mag (n : Int) : Int := if n < 0 then -n else n
theorem mag_lo (n : Int) : 0 ≤ mag n := by unfold mag; split <;> omega
theorem mag_le (n : Int) (h0 : -9223372036854775808 ≤ n) (h1 : n ≤ 9223372036854775807) : mag n ≤ 9223372036854775808 := by unfold mag; split <;> omega
theorem mag_pos (n : Int) (h : 0 ≤ n) : mag n = n := by unfold mag; rw [if_neg (by omega)]
theorem mag_neg (n : Int) (h : n < 0) : mag n = -n := by unfold mag; rw [if_pos h]
theorem mag_natAbs (n : Int) : mag n = (n.natAbs : Int) := by unfold mag; split <;> omega
theorem mag_mul_bound (x y : Int) (hx0 : 0 ≤ x) (hx : x ≤ 9223372036854775808) (hy0 : 0 ≤ y) (hy : y ≤ 9223372036854775808) : 0 ≤ x * y ∧ x * y ≤ 85070591730234615865843651857942052864 := by
  have h1 := Int.mul_nonneg hx0 hy0
  have h2 := Int.mul_le_mul hx hy hy0 (by omega : (0 : Int) ≤ 9223372036854775808)
  exact ⟨h1, by omega⟩
theorem mag_mul (x y : Int) : mag x * mag y = mag (x * y) := by
  rw [mag_natAbs, mag_natAbs, mag_natAbs, Int.natAbs_mul, Int.natCast_mul]
theorem zsign_neg (z : Int) (h : z < 0) : z.sign = -1 := Int.sign_eq_neg_one_of_neg h
theorem zsign_pos (z : Int) (h : 0 < z) : z.sign = 1 := Int.sign_eq_one_of_pos h
/-- The words of a quotient. -/
theorem div_parts (z d : Int) (h0 : 0 ≤ z) (h1 : z < 170141183460469231731687303715884105728) (hd : 1 ≤ d) (hd1 : d ≤ 18446744073709551615) :
    whi (z / d) = whi z / d ∧ wlo (z / d) = (whi z % d * 18446744073709551616 + wlo z) / d ∧ z % d = (whi z % d * 18446744073709551616 + wlo z) % d ∧ 0 ≤ whi z % d ∧ whi z % d < d := by
  have hz := pos_whi z h0 h1
  have a0 := whi_lo z; have a1 := whi_hi z; have b0 := wlo_lo z; have b1 := wlo_hi z
  generalize whi z = h at *
  generalize wlo z = l at *
  have e := Int.mul_ediv_add_emod h d
  have r0 := Int.emod_nonneg h (show d ≠ 0 by omega)
  have r1 := Int.emod_lt_of_pos h (show 0 < d by omega)
  generalize hq : h / d = q at *
  generalize hr : h % d = r at *
  have q0 : 0 ≤ q := by rw [← hq]; exact Int.ediv_nonneg a0 (by omega)
  have q1 : q ≤ 18446744073709551615 := by
    rw [← hq]; have := Int.ediv_le_self d a0; omega
  have key : z = d * (q * 18446744073709551616) + (r * 18446744073709551616 + l) := by rw [hz, ← e]; grind
  have lo : (r * 18446744073709551616 + l) / d < 18446744073709551616 := by
    apply Int.ediv_lt_of_lt_mul (by omega)
    have : (r + 1) * 18446744073709551616 ≤ d * 18446744073709551616 := Int.mul_le_mul_of_nonneg_right (by omega) (by omega)
    have := Int.mul_comm d 18446744073709551616
    omega
  have lo0 : 0 ≤ (r * 18446744073709551616 + l) / d := Int.ediv_nonneg (by omega) (by omega)
  have hdiv : z / d = q * 18446744073709551616 + (r * 18446744073709551616 + l) / d := by
    rw [key, Int.add_comm, Int.add_mul_ediv_left _ _ (by omega), Int.add_comm]
  refine ⟨?_, ?_, ?_, r0, r1⟩
  · rw [hdiv]; unfold whi B64; omega
  · rw [hdiv]; unfold wlo B64; omega
  · rw [key, Int.add_comm, Int.add_mul_emod_self_left]
theorem tdiv_neg (z d : Int) (h0 : z < 0) : z.tdiv d = -((-z) / d) := by
  rw [show z.tdiv d = -((-z).tdiv d) by rw [Int.neg_tdiv, Int.neg_neg], Int.tdiv_eq_ediv_of_nonneg (by omega)]
end Go.Proofs.Ytcafmmhjlecgpaa
