/-
  Plain arithmetic of long division: a digit of the quotient, guessed from above.
-/
import Derived.WalkKit
namespace Go.Proofs.Ytcafmmhjlecgpaa

/-- What stays true of the guess of a digit, in every round: q is not below the digit. -/
structure Guess (U Y Y1 x q r : Int) : Prop where
  low : (U * 4294967296 + x) / Y ≤ q
  high : q ≤ 4294967297
  sum : q * Y1 + r = U
  r0 : 0 ≤ r

structure Digit (U Y Y1 Y0 x : Int) : Prop where
  ky : Y = Y1 * 4294967296 + Y0
  ky1 : 2147483648 ≤ Y1
  ky1' : Y1 ≤ 4294967295
  ky0 : 0 ≤ Y0
  ky0' : Y0 ≤ 4294967295
  ku : 0 ≤ U
  ku' : U < Y
  kx : 0 ≤ x
  kx' : x ≤ 4294967295

variable {U Y Y1 Y0 x q r : Int}
theorem Digit.pos (d : Digit U Y Y1 Y0 x) : 0 < Y := by have := d.ky; have := d.ky1; have := d.ky0; omega
theorem Digit.lt (d : Digit U Y Y1 Y0 x) : (U * 4294967296 + x) / Y < 4294967296 := by
  apply Int.ediv_lt_of_lt_mul d.pos
  have := d.ku'; have := d.kx'; omega
theorem Digit.ge (d : Digit U Y Y1 Y0 x) : 0 ≤ (U * 4294967296 + x) / Y := Int.ediv_nonneg (by have := d.ku; have := d.kx; omega) (by have := d.pos; omega)
theorem Digit.first (d : Digit U Y Y1 Y0 x) : Guess U Y Y1 x (U / Y1) (U % Y1) := by
  have p := d.pos
  have y1 := d.ky1
  have e := Int.mul_ediv_add_emod U Y1
  have m := Int.mul_comm Y1 (U / Y1)
  refine ⟨?_, ?_, by omega, Int.emod_nonneg _ (by omega)⟩
  · apply (Int.le_ediv_iff_mul_le (by omega)).2
    generalize hQ : (U * 4294967296 + x) / Y = Q
    have h : Q * Y ≤ U * 4294967296 + x := (Int.le_ediv_iff_mul_le p).1 (by omega)
    have hq : 0 ≤ Q := by rw [← hQ]; exact d.ge
    have h1 : Q * Y = Q * Y1 * 4294967296 + Q * Y0 := by rw [d.ky]; grind
    have h2 : 0 ≤ Q * Y0 := Int.mul_nonneg hq d.ky0
    have := d.kx'
    omega
  · have : U / Y1 < 4294967298 := by
      apply Int.ediv_lt_of_lt_mul (by omega)
      have := d.ku'; have := d.ky; have := d.ky0'; omega
    omega
theorem Guess.done (d : Digit U Y Y1 Y0 x) (g : Guess U Y Y1 x q r) (h : q * Y0 ≤ 4294967296 * r + x) : q = (U * 4294967296 + x) / Y := by
  have h1 : q * Y = q * Y1 * 4294967296 + q * Y0 := by rw [d.ky]; grind
  have s := g.sum
  have : q ≤ (U * 4294967296 + x) / Y := (Int.le_ediv_iff_mul_le d.pos).2 (by omega)
  have := g.low
  omega
theorem Guess.great (d : Digit U Y Y1 Y0 x) (h : 4294967296 ≤ q) : (U * 4294967296 + x) / Y ≤ q - 1 := by
  have := d.lt; omega
theorem Guess.over (d : Digit U Y Y1 Y0 x) (g : Guess U Y Y1 x q r) (h : 4294967296 * r + x < q * Y0) : (U * 4294967296 + x) / Y ≤ q - 1 := by
  have h1 : q * Y = q * Y1 * 4294967296 + q * Y0 := by rw [d.ky]; grind
  have s := g.sum
  have : (U * 4294967296 + x) / Y < q := Int.ediv_lt_of_lt_mul d.pos (by omega)
  omega
theorem Guess.next (g : Guess U Y Y1 x q r) (h : (U * 4294967296 + x) / Y ≤ q - 1) (y1 : 0 ≤ Y1) : Guess U Y Y1 x (q - 1) (r + Y1) := by
  have := g.sum; have := g.r0; have := g.high
  have e : (q - 1) * Y1 = q * Y1 - Y1 := by rw [Int.sub_mul, Int.one_mul]
  exact ⟨h, by omega, by omega, by omega⟩
theorem Guess.stop (d : Digit U Y Y1 Y0 x) (g : Guess U Y Y1 x q r) (hq : q ≤ 4294967296) (h : 4294967296 ≤ r) : q = (U * 4294967296 + x) / Y := by
  refine g.done d ?_
  have q0 := Int.le_trans d.ge g.low
  have := Int.mul_le_mul hq d.ky0' d.ky0 (by omega : (0 : Int) ≤ 4294967296)
  have := d.kx
  omega
/-- What the next digit is taken from. -/
theorem Digit.rest (d : Digit U Y Y1 Y0 x) (hY : Y ≤ 18446744073709551615) : (U * 4294967296 + x - (U * 4294967296 + x) / Y * Y) % 18446744073709551616 = (U * 4294967296 + x) % Y := by
  have e := Int.mul_ediv_add_emod (U * 4294967296 + x) Y
  have m := Int.mul_comm Y ((U * 4294967296 + x) / Y)
  have a := Int.emod_nonneg (U * 4294967296 + x) (show Y ≠ 0 by have := d.pos; omega)
  have b := Int.emod_lt_of_pos (U * 4294967296 + x) d.pos
  omega
/-- Two digits are the quotient. -/
theorem Digit.both {V1 V0 : Int} (hY : 0 < Y) :
    (U * 4294967296 + V1) / Y * 4294967296 + ((U * 4294967296 + V1) % Y * 4294967296 + V0) / Y = (U * 18446744073709551616 + (V1 * 4294967296 + V0)) / Y ∧
    ((U * 4294967296 + V1) % Y * 4294967296 + V0) % Y = (U * 18446744073709551616 + (V1 * 4294967296 + V0)) % Y := by
  have e := Int.mul_ediv_add_emod (U * 4294967296 + V1) Y
  generalize (U * 4294967296 + V1) / Y = A at *
  generalize (U * 4294967296 + V1) % Y = R at *
  have k : U * 18446744073709551616 + (V1 * 4294967296 + V0) = Y * (A * 4294967296) + (R * 4294967296 + V0) := by grind
  rw [k]
  constructor
  · rw [Int.add_comm (Y * _), Int.add_mul_ediv_left _ _ (by omega), Int.add_comm]
  · rw [Int.add_comm (Y * _), Int.add_mul_emod_self_left]
theorem wrap3 (a b c : Int) : ((a % 18446744073709551616 + b) % 18446744073709551616 - c % 18446744073709551616) % 18446744073709551616 = (a + b - c) % 18446744073709551616 := by
  rw [Int.emod_add_emod, Int.emod_sub_emod, Int.sub_emod_emod]
theorem wrapU3 (a b c : Int) : IntKind.u64.wrap (IntKind.u64.wrap (IntKind.u64.wrap a + b) - IntKind.u64.wrap c) = (a + b - c) % 18446744073709551616 := by
  rw [IntKind.wrap_u64, IntKind.wrap_u64, IntKind.wrap_u64, IntKind.wrap_u64, wrap3]
end Go.Proofs.Ytcafmmhjlecgpaa
