/-
  The examples of the chapter: the calls at their numbers.
-/
import Derived.Test.YtekpfgcpbipdpaaDoorAlive2
import Derived.Test.YtekpfgcpbipdpaaDoorMeetQ
import Derived.Test.YtekpfgcpbipdpaaDoorParse
namespace Go.Proofs.YtekpfgcpbipdpaaDoor
open Go.RowKit

def K1_2 : Rat := mkR 1 2
theorem K1_2_n : fn K1_2 = 1 := by kernel_rfl
theorem K1_2_d : fd K1_2 = 2 := by kernel_rfl
theorem K1_2_f : fits K1_2 := of_decide_eq_true (by kernel_rfl)
def K1_3 : Rat := mkR 1 3
theorem K1_3_n : fn K1_3 = 1 := by kernel_rfl
theorem K1_3_d : fd K1_3 = 3 := by kernel_rfl
theorem K1_3_f : fits K1_3 := of_decide_eq_true (by kernel_rfl)
def K2_3 : Rat := mkR 2 3
theorem K2_3_n : fn K2_3 = 2 := by kernel_rfl
theorem K2_3_d : fd K2_3 = 3 := by kernel_rfl
theorem K2_3_f : fits K2_3 := of_decide_eq_true (by kernel_rfl)
def K3_4 : Rat := mkR 3 4
theorem K3_4_n : fn K3_4 = 3 := by kernel_rfl
theorem K3_4_d : fd K3_4 = 4 := by kernel_rfl
theorem K3_4_f : fits K3_4 := of_decide_eq_true (by kernel_rfl)
def K1_1 : Rat := mkR 1 1
theorem K1_1_n : fn K1_1 = 1 := by kernel_rfl
theorem K1_1_d : fd K1_1 = 1 := by kernel_rfl
theorem K1_1_f : fits K1_1 := of_decide_eq_true (by kernel_rfl)
def K0_1 : Rat := mkR 0 1
theorem K0_1_n : fn K0_1 = 0 := by kernel_rfl
theorem K0_1_d : fd K0_1 = 1 := by kernel_rfl
theorem K0_1_f : fits K0_1 := of_decide_eq_true (by kernel_rfl)
def K4611686018427387903_1 : Rat := mkR 4611686018427387903 1
theorem K4611686018427387903_1_n : fn K4611686018427387903_1 = 4611686018427387903 := by kernel_rfl
theorem K4611686018427387903_1_d : fd K4611686018427387903_1 = 1 := by kernel_rfl
theorem K4611686018427387903_1_f : fits K4611686018427387903_1 := of_decide_eq_true (by kernel_rfl)
def K1_4611686018427387903 : Rat := mkR 1 4611686018427387903
theorem K1_4611686018427387903_n : fn K1_4611686018427387903 = 1 := by kernel_rfl
theorem K1_4611686018427387903_d : fd K1_4611686018427387903 = 4611686018427387903 := by kernel_rfl
theorem K1_4611686018427387903_f : fits K1_4611686018427387903 := of_decide_eq_true (by kernel_rfl)
def Km1_2 : Rat := mkR (-1) 2
theorem Km1_2_n : fn Km1_2 = (-1) := by kernel_rfl
theorem Km1_2_d : fd Km1_2 = 2 := by kernel_rfl
theorem Km1_2_f : fits Km1_2 := of_decide_eq_true (by kernel_rfl)
def Km1_3 : Rat := mkR (-1) 3
theorem Km1_3_n : fn Km1_3 = (-1) := by kernel_rfl
theorem Km1_3_d : fd Km1_3 = 3 := by kernel_rfl
theorem Km1_3_f : fits Km1_3 := of_decide_eq_true (by kernel_rfl)
def Km7_2 : Rat := mkR (-7) 2
theorem Km7_2_n : fn Km7_2 = (-7) := by kernel_rfl
theorem Km7_2_d : fd Km7_2 = 2 := by kernel_rfl
theorem Km7_2_f : fits Km7_2 := of_decide_eq_true (by kernel_rfl)
def K4_1 : Rat := mkR 4 1
theorem K4_1_n : fn K4_1 = 4 := by kernel_rfl
theorem K4_1_d : fd K4_1 = 1 := by kernel_rfl
theorem K4_1_f : fits K4_1 := of_decide_eq_true (by kernel_rfl)
def K5_1 : Rat := mkR 5 1
theorem K5_1_n : fn K5_1 = 5 := by kernel_rfl
theorem K5_1_d : fd K5_1 = 1 := by kernel_rfl
theorem K5_1_f : fits K5_1 := of_decide_eq_true (by kernel_rfl)
def K2_1 : Rat := mkR 2 1
theorem K2_1_n : fn K2_1 = 2 := by kernel_rfl
theorem K2_1_d : fd K2_1 = 1 := by kernel_rfl
theorem K2_1_f : fits K2_1 := of_decide_eq_true (by kernel_rfl)
def K3_1 : Rat := mkR 3 1
theorem K3_1_n : fn K3_1 = 3 := by kernel_rfl
theorem K3_1_d : fd K3_1 = 1 := by kernel_rfl
theorem K3_1_f : fits K3_1 := of_decide_eq_true (by kernel_rfl)
def Km4_1 : Rat := mkR (-4) 1
theorem Km4_1_n : fn Km4_1 = (-4) := by kernel_rfl
theorem Km4_1_d : fd Km4_1 = 1 := by kernel_rfl
theorem Km4_1_f : fits Km4_1 := of_decide_eq_true (by kernel_rfl)
def Km2_1 : Rat := mkR (-2) 1
theorem Km2_1_n : fn Km2_1 = (-2) := by kernel_rfl
theorem Km2_1_d : fd Km2_1 = 1 := by kernel_rfl
theorem Km2_1_f : fits Km2_1 := of_decide_eq_true (by kernel_rfl)
def K9_4 : Rat := mkR 9 4
theorem K9_4_n : fn K9_4 = 9 := by kernel_rfl
theorem K9_4_d : fd K9_4 = 4 := by kernel_rfl
theorem K9_4_f : fits K9_4 := of_decide_eq_true (by kernel_rfl)

theorem e_make1 (w : World) : Calls Tryd.prog 7 #[.int .i64 0, .int .i64 5] w fun e w' => e = .returned (.tuple #[.agg #[.int .i64 0, .int .i64 1], .int .i64 0]) ∧ Below w.heap.size w w' := by
  have h := make_q 0 5 w (by omega) (by omega) (by omega) (by omega) (by omega)
  rw [show rn (mkR 0 5) = 0 by kernel_rfl, show rd (mkR 0 5) = 1 by kernel_rfl, show re (mkR 0 5) = 0 by kernel_rfl] at h
  exact h

theorem e_make3 (w : World) : Calls Tryd.prog 7 #[.int .i64 (-9223372036854775808), .int .i64 2] w fun e w' => e = .returned (.tuple #[.agg #[.int .i64 0, .int .i64 0], .int .i64 4]) ∧ Below w.heap.size w w' := by
  have h := make_q (-9223372036854775808) 2 w (by omega) (by omega) (by omega) (by omega) (by omega)
  rw [show rn (mkR (-9223372036854775808) 2) = 0 by kernel_rfl, show rd (mkR (-9223372036854775808) 2) = 0 by kernel_rfl, show re (mkR (-9223372036854775808) 2) = 4 by kernel_rfl] at h
  exact h

theorem e_make4 (w : World) : Calls Tryd.prog 7 #[.int .i64 (-9223372036854775808), .int .i64 1] w fun e w' => e = .returned (.tuple #[.agg #[.int .i64 0, .int .i64 0], .int .i64 4]) ∧ Below w.heap.size w w' := by
  have h := make_q (-9223372036854775808) 1 w (by omega) (by omega) (by omega) (by omega) (by omega)
  rw [show rn (mkR (-9223372036854775808) 1) = 0 by kernel_rfl, show rd (mkR (-9223372036854775808) 1) = 0 by kernel_rfl, show re (mkR (-9223372036854775808) 1) = 4 by kernel_rfl] at h
  exact h

theorem e_make2 (w : World) : Calls Tryd.prog 7 #[.int .i64 1, .int .i64 0] w fun e w' => e = .returned (.tuple #[.agg #[.int .i64 0, .int .i64 0], .int .i64 10]) ∧ Below w.heap.size w w' := make_zero 1 w

theorem e_sub (w : World) : Calls Tryd.prog 8 #[.agg #[.int .i64 1, .int .i64 2], .agg #[.int .i64 1, .int .i64 3]] w fun e w' => e = .returned (.tuple #[.agg #[.int .i64 1, .int .i64 6], .int .i64 0]) ∧ Below w.heap.size w w' := by
  have h := sub_q K1_2 K1_3 K1_2_f K1_3_f w
  rw [show rn (K1_2 - K1_3) = 1 by kernel_rfl, show rd (K1_2 - K1_3) = 6 by kernel_rfl, show re (K1_2 - K1_3) = 0 by kernel_rfl, K1_2_n, K1_2_d, K1_3_n, K1_3_d] at h
  exact h

theorem e_mul (w : World) : Calls Tryd.prog 9 #[.agg #[.int .i64 2, .int .i64 3], .agg #[.int .i64 3, .int .i64 4]] w fun e w' => e = .returned (.tuple #[.agg #[.int .i64 1, .int .i64 2], .int .i64 0]) ∧ Below w.heap.size w w' := by
  have h := mul_q K2_3 K3_4 K2_3_f K3_4_f w
  rw [show rn (K2_3 * K3_4) = 1 by kernel_rfl, show rd (K2_3 * K3_4) = 2 by kernel_rfl, show re (K2_3 * K3_4) = 0 by kernel_rfl, K2_3_n, K2_3_d, K3_4_n, K3_4_d] at h
  exact h

theorem e_add (w : World) : Calls Tryd.prog 14 #[.agg #[.int .i64 4611686018427387903, .int .i64 1], .agg #[.int .i64 1, .int .i64 1]] w fun e w' => e = .returned (.tuple #[.agg #[.int .i64 0, .int .i64 0], .int .i64 4]) ∧ Below w.heap.size w w' := by
  have h := add_q K4611686018427387903_1 K1_1 K4611686018427387903_1_f K1_1_f w
  rw [show rn (K4611686018427387903_1 + K1_1) = 0 by kernel_rfl, show rd (K4611686018427387903_1 + K1_1) = 0 by kernel_rfl, show re (K4611686018427387903_1 + K1_1) = 4 by kernel_rfl, K4611686018427387903_1_n, K4611686018427387903_1_d, K1_1_n, K1_1_d] at h
  exact h

theorem e_mul2 (w : World) : Calls Tryd.prog 9 #[.agg #[.int .i64 1, .int .i64 4611686018427387903], .agg #[.int .i64 1, .int .i64 2]] w fun e w' => e = .returned (.tuple #[.agg #[.int .i64 0, .int .i64 0], .int .i64 4]) ∧ Below w.heap.size w w' := by
  have h := mul_q K1_4611686018427387903 K1_2 K1_4611686018427387903_f K1_2_f w
  rw [show rn (K1_4611686018427387903 * K1_2) = 0 by kernel_rfl, show rd (K1_4611686018427387903 * K1_2) = 0 by kernel_rfl, show re (K1_4611686018427387903 * K1_2) = 4 by kernel_rfl, K1_4611686018427387903_n, K1_4611686018427387903_d, K1_2_n, K1_2_d] at h
  exact h

theorem e_div (w : World) : Calls Tryd.prog 10 #[.agg #[.int .i64 1, .int .i64 1], .agg #[.int .i64 0, .int .i64 1]] w fun e w' => e = .returned (.tuple #[.agg #[.int .i64 0, .int .i64 0], .int .i64 10]) ∧ Below w.heap.size w w' := by
  have h := div_zero K1_1 K0_1 K1_1_f K0_1_f K0_1_n w
  rw [K1_1_n, K1_1_d, K0_1_n, K0_1_d] at h
  exact h

theorem e_cmp (w : World) : Calls Tryd.prog 15 #[.agg #[.int .i64 (-1), .int .i64 2], .agg #[.int .i64 (-1), .int .i64 3]] w fun e w' => e = .returned (.tuple #[.int .i64 (-1), .int .i64 0]) ∧ Below w.heap.size w w' := by
  have h := compare_q Km1_2 Km1_3 Km1_2_f Km1_3_f w
  rw [show ordQ Km1_2 Km1_3 = -1 by kernel_rfl, Km1_2_n, Km1_2_d, Km1_3_n, Km1_3_d] at h
  exact h

theorem e_ceil (w : World) : Calls Tryd.prog 16 #[.agg #[.int .i64 (-7), .int .i64 2]] w fun e w' => e = .returned (.tuple #[.int .i64 (-3), .int .i64 0]) ∧ Below w.heap.size w w' := by
  have h := ceil_q Km7_2 Km7_2_f w
  rw [show ceilQ Km7_2 = (-3) by kernel_rfl, Km7_2_n, Km7_2_d] at h
  exact h

theorem e_floor (w : World) : Calls Tryd.prog 17 #[.agg #[.int .i64 4, .int .i64 1]] w fun e w' => e = .returned (.tuple #[.int .i64 4, .int .i64 0]) ∧ Below w.heap.size w w' := by
  have h := floor_q K4_1 K4_1_f w
  rw [show floorQ K4_1 = 4 by kernel_rfl, K4_1_n, K4_1_d] at h
  exact h

theorem e_ceil2 (w : World) : Calls Tryd.prog 16 #[.agg #[.int .i64 4, .int .i64 1]] w fun e w' => e = .returned (.tuple #[.int .i64 4, .int .i64 0]) ∧ Below w.heap.size w w' := by
  have h := ceil_q K4_1 K4_1_f w
  rw [show ceilQ K4_1 = 4 by kernel_rfl, K4_1_n, K4_1_d] at h
  exact h

theorem e_textB : textB K5_1 = ⟨#[53]⟩ := by
  unfold textB itoaB
  rw [if_pos K5_1_d, K5_1_n]
  have e1 : Lib.itoa 5 = [53] := by unfold Lib.itoa; rw [if_neg (by decide)]; show Lib.decDigits 5 = _; rw [Lib.decDigits, dif_pos (by decide)]; rfl
  rw [e1]
theorem e_text (w : World) (hT : Tab w) : Calls Tryd.prog 18 #[.agg #[.int .i64 5, .int .i64 1]] w fun e w' => e = .returned (.tuple #[.string ⟨#[53]⟩, .int .i64 0]) ∧ Below w.heap.size w w' := by
  have h := textCall_q K5_1 K5_1_f w hT
  rw [e_textB, K5_1_n, K5_1_d] at h
  exact h

theorem e_divs (w : World) : Calls Tryd.prog 20 #[.agg #[.int .i64 1, .int .i64 1, .int .i64 2, .int .i64 1], .agg #[.int .i64 (-4), .int .i64 1, .int .i64 (-2), .int .i64 1]] w fun e w' => e = .returned (.tuple #[.agg #[.int .i64 (-1), .int .i64 1, .int .i64 (-1), .int .i64 4], .int .i64 0]) ∧ Below w.heap.size w w' := by
  have h := divSpans_q K1_1 K2_1 Km4_1 Km2_1 K1_1_f K2_1_f Km4_1_f Km2_1_f (of_decide_eq_true (by kernel_rfl)) (of_decide_eq_true (by kernel_rfl)) (by kernel_rfl) w
  have ok : fits (K1_1 * Km2_1⁻¹) ∧ fits (K1_1 * Km4_1⁻¹) ∧ fits (K2_1 * Km2_1⁻¹) ∧ fits (K2_1 * Km4_1⁻¹) := (of_decide_eq_true (by kernel_rfl))
  rw [oz_yes ok, oz_yes ok, oz_yes ok, oz_yes ok, oe_yes ok, show fn (loQ (K1_1 * Km2_1⁻¹) [K1_1 * Km4_1⁻¹, K2_1 * Km2_1⁻¹, K2_1 * Km4_1⁻¹]) = -1 by kernel_rfl, show fd (loQ (K1_1 * Km2_1⁻¹) [K1_1 * Km4_1⁻¹, K2_1 * Km2_1⁻¹, K2_1 * Km4_1⁻¹]) = 1 by kernel_rfl, show fn (hiQ (K1_1 * Km2_1⁻¹) [K1_1 * Km4_1⁻¹, K2_1 * Km2_1⁻¹, K2_1 * Km4_1⁻¹]) = -1 by kernel_rfl, show fd (hiQ (K1_1 * Km2_1⁻¹) [K1_1 * Km4_1⁻¹, K2_1 * Km2_1⁻¹, K2_1 * Km4_1⁻¹]) = 4 by kernel_rfl, K1_1_n, K1_1_d, K2_1_n, K2_1_d, Km4_1_n, Km4_1_d, Km2_1_n, Km2_1_d] at h
  exact h

theorem e_divz (w : World) : Calls Tryd.prog 20 #[.agg #[.int .i64 1, .int .i64 1, .int .i64 2, .int .i64 1], .agg #[.int .i64 0, .int .i64 1, .int .i64 1, .int .i64 1]] w fun e w' => e = .returned (.tuple #[.agg #[.int .i64 0, .int .i64 0, .int .i64 0, .int .i64 0], .int .i64 10]) ∧ Below w.heap.size w w' := by
  have h := divSpans_z K1_1 K2_1 K0_1 K1_1 K1_1_f K2_1_f K0_1_f K1_1_f (of_decide_eq_true (by kernel_rfl)) (of_decide_eq_true (by kernel_rfl)) (by kernel_rfl) w
  rw [K1_1_n, K1_1_d, K2_1_n, K2_1_d, K0_1_n, K0_1_d] at h
  exact h

theorem e_subs (w : World) : Calls Tryd.prog 22 #[.agg #[.int .i64 1, .int .i64 1, .int .i64 2, .int .i64 1], .agg #[.int .i64 0, .int .i64 1, .int .i64 3, .int .i64 1]] w fun e w' => e = .returned (.tuple #[.agg #[.int .i64 (-2), .int .i64 1, .int .i64 2, .int .i64 1], .int .i64 0]) ∧ Below w.heap.size w w' := by
  have h := subSpans_q K1_1 K2_1 K0_1 K3_1 K1_1_f K2_1_f K0_1_f K3_1_f (of_decide_eq_true (by kernel_rfl)) (of_decide_eq_true (by kernel_rfl)) w
  have ok : fits (K1_1 - K3_1) ∧ fits (K2_1 - K0_1) := (of_decide_eq_true (by kernel_rfl))
  rw [oz_yes ok, oz_yes ok, oz_yes ok, oz_yes ok, oe_yes ok, show fn (K1_1 - K3_1) = -2 by kernel_rfl, show fd (K1_1 - K3_1) = 1 by kernel_rfl, show fn (K2_1 - K0_1) = 2 by kernel_rfl, show fd (K2_1 - K0_1) = 1 by kernel_rfl, K1_1_n, K1_1_d, K2_1_n, K2_1_d, K0_1_n, K0_1_d, K3_1_n, K3_1_d] at h
  exact h

theorem e_meet1 (w : World) : Calls Tryd.prog 23 #[.agg #[.int .i64 1, .int .i64 1, .int .i64 3, .int .i64 1], .agg #[.int .i64 2, .int .i64 1, .int .i64 5, .int .i64 1]] w fun e w' => e = .returned (.tuple #[.agg #[.int .i64 2, .int .i64 1, .int .i64 3, .int .i64 1], .int .i64 0]) ∧ Below w.heap.size w w' := by
  obtain ⟨A, B, C, D, E, hc, hv⟩ := meet_q K1_1 K3_1 K2_1 K5_1 K1_1_f K3_1_f K2_1_f K5_1_f (of_decide_eq_true (by kernel_rfl)) (of_decide_eq_true (by kernel_rfl))
  have h := hc w
  rcases hv with ⟨-, hv⟩ | ⟨rfl, -, rfl, rfl, rfl, rfl⟩
  · exact absurd (of_decide_eq_true (by kernel_rfl)) hv
  · rw [show fn (hiQ K1_1 [K2_1]) = 2 by kernel_rfl, show fd (hiQ K1_1 [K2_1]) = 1 by kernel_rfl, show fn (loQ K3_1 [K5_1]) = 3 by kernel_rfl, show fd (loQ K3_1 [K5_1]) = 1 by kernel_rfl, K1_1_n, K1_1_d, K3_1_n, K3_1_d, K2_1_n, K2_1_d, K5_1_n, K5_1_d] at h
    exact h

theorem e_meet2 : ∃ A B C D : Int, ∀ w : World, Calls Tryd.prog 23 #[.agg #[.int .i64 1, .int .i64 1, .int .i64 2, .int .i64 1], .agg #[.int .i64 3, .int .i64 1, .int .i64 4, .int .i64 1]] w fun e w' => e = .returned (.tuple #[.agg #[.int .i64 A, .int .i64 B, .int .i64 C, .int .i64 D], .int .i64 6]) ∧ Below w.heap.size w w' := by
  obtain ⟨A, B, C, D, E, hc, hv⟩ := meet_q K1_1 K2_1 K3_1 K4_1 K1_1_f K2_1_f K3_1_f K4_1_f (of_decide_eq_true (by kernel_rfl)) (of_decide_eq_true (by kernel_rfl))
  rcases hv with ⟨rfl, -⟩ | ⟨-, hv, -⟩
  · refine ⟨A, B, C, D, fun w => ?_⟩
    have h := hc w
    rw [K1_1_n, K1_1_d, K2_1_n, K2_1_d, K3_1_n, K3_1_d, K4_1_n, K4_1_d] at h
    exact h
  · exact absurd hv (of_decide_eq_true (by kernel_rfl))

theorem e_join (w : World) : Calls Tryd.prog 24 #[.agg #[.int .i64 1, .int .i64 1, .int .i64 2, .int .i64 1], .agg #[.int .i64 3, .int .i64 1, .int .i64 4, .int .i64 1]] w fun e w' => e = .returned (.tuple #[.agg #[.int .i64 1, .int .i64 1, .int .i64 4, .int .i64 1], .int .i64 0]) ∧ Below w.heap.size w w' := by
  have h := join_q K1_1 K2_1 K3_1 K4_1 K1_1_f K2_1_f K3_1_f K4_1_f (of_decide_eq_true (by kernel_rfl)) (of_decide_eq_true (by kernel_rfl)) w
  rw [show fn (loQ K1_1 [K2_1, K3_1, K4_1]) = 1 by kernel_rfl, show fd (loQ K1_1 [K2_1, K3_1, K4_1]) = 1 by kernel_rfl, show fn (hiQ K1_1 [K2_1, K3_1, K4_1]) = 4 by kernel_rfl, show fd (hiQ K1_1 [K2_1, K3_1, K4_1]) = 1 by kernel_rfl, K1_1_n, K1_1_d, K2_1_n, K2_1_d, K3_1_n, K3_1_d, K4_1_n, K4_1_d] at h
  exact h

theorem e_root1 (w : World) : Calls Tryd.prog 26 #[.agg #[.int .i64 9, .int .i64 4], .int .i64 2] w fun e w' => e = .returned (.tuple #[.agg #[.int .i64 3, .int .i64 2, .int .i64 3, .int .i64 2], .int .i64 0]) ∧ Below w.heap.size w w' := by
  have m : rootM K9_4 2 = 9 := by kernel_rfl
  have h := root_q K9_4 K9_4_f (by rw [K9_4_n]; decide) 2 3 3 (by omega) (by omega) (by omega) (by rw [m]; omega) (by rw [if_pos ⟨by kernel_rfl, by rw [m]; rfl⟩]) w
  rw [show fn (mkR 3 2) = 3 by kernel_rfl, show fd (mkR 3 2) = 2 by kernel_rfl, K9_4_n, K9_4_d] at h
  exact h

theorem e_root2 (w : World) : Calls Tryd.prog 26 #[.agg #[.int .i64 9, .int .i64 4], .int .i64 1] w fun e w' => e = .returned (.tuple #[.agg #[.int .i64 1, .int .i64 1, .int .i64 2, .int .i64 1], .int .i64 0]) ∧ Below w.heap.size w w' := by
  have m : rootM K9_4 1 = 2 := by kernel_rfl
  have h := root_q K9_4 K9_4_f (by rw [K9_4_n]; decide) 1 1 2 (by omega) (by omega) (by omega) (by rw [m]; omega) (by rw [if_neg (by rw [m]; omega)]; rfl) w
  rw [show fn (mkR 1 1) = 1 by kernel_rfl, show fd (mkR 1 1) = 1 by kernel_rfl, show fn (mkR 2 1) = 2 by kernel_rfl, show fd (mkR 2 1) = 1 by kernel_rfl, K9_4_n, K9_4_d] at h
  exact h

theorem e_root3 (w : World) : Calls Tryd.prog 26 #[.agg #[.int .i64 0, .int .i64 1], .int .i64 7] w fun e w' => e = .returned (.tuple #[.agg #[.int .i64 0, .int .i64 1, .int .i64 0, .int .i64 1], .int .i64 0]) ∧ Below w.heap.size w w' := by
  have m : rootM K0_1 7 = 0 := by kernel_rfl
  have h := root_q K0_1 K0_1_f (by rw [K0_1_n]; decide) 7 0 0 (by omega) (by omega) (by omega) (by rw [m]; omega) (by rw [if_pos ⟨by kernel_rfl, by rw [m]; rfl⟩]) w
  rw [show fn (mkR 0 7) = 0 by kernel_rfl, show fd (mkR 0 7) = 1 by kernel_rfl, K0_1_n, K0_1_d] at h
  exact h

theorem parts_of {s : ByteArray} {q : Rat} (hq : fits q) (h : textB q = s) : numV (upperL s) = some (fn q) ∧ numV (lowerL s) = some (fd q) := by
  have f4 := fd_pos q
  unfold fits at hq
  obtain ⟨hU, hL⟩ := textB_cut q
  rw [h] at hU hL
  rw [hU, hL]
  unfold numV
  rw [atoi_itoa _ (by omega) (by omega), atoi_itoa _ (by omega) (by omega)]
  exact ⟨rfl, rfl⟩
/-- A text whose parts say other numbers than a fraction in lowest terms has, or whose fraction has another text, is the text of none. -/
theorem wrong_of (s : ByteArray) (a b : Int) (h1 : numV (upperL s) = some a) (h2 : numV (lowerL s) = some b) (h : okF a b → b = 1 ∧ Lib.itoa a ≠ s.data.toList) : ∀ q, fits q → textB q ≠ s := by
  intro q hq he
  obtain ⟨p1, p2⟩ := parts_of hq he
  rw [h1] at p1
  rw [h2] at p2
  injection p1 with p1
  injection p2 with p2
  subst p1 p2
  obtain ⟨k1, k2⟩ := h (okF_q hq)
  have := textB_toList q
  rw [he, if_pos k1] at this
  exact k2 this.symm
theorem itoa_small (k : Nat) (h : k < 10) : Lib.itoa (k : Int) = [UInt8.ofNat (48 + k)] := by
  unfold Lib.itoa
  rw [if_neg (by omega)]
  show Lib.decDigits ((k : Int).natAbs) = _
  rw [show ((k : Int)).natAbs = k by omega, Lib.decDigits, dif_pos h]
def wrongS : List ByteArray := [⟨#[50, 47, 52]⟩, ⟨#[51, 47, 49]⟩, ⟨#[45, 48]⟩, ⟨#[43, 49]⟩, ⟨#[49, 47, 45, 50]⟩]
theorem wrong_all (s : ByteArray) (hs : s ∈ wrongS) : ∀ q, fits q → textB q ≠ s := by
  simp only [wrongS, List.mem_cons, List.not_mem_nil, or_false] at hs
  rcases hs with rfl | rfl | rfl | rfl | rfl
  · exact wrong_of _ 2 4 (by decide +kernel) (by decide +kernel) (fun k => by have := k.2.2.2.2; revert this; decide)
  · exact wrong_of _ 3 1 (by decide +kernel) (by decide +kernel) (fun _ => ⟨rfl, by rw [show (3 : Int) = ((3 : Nat) : Int) from rfl, itoa_small 3 (by omega)]; decide⟩)
  · exact wrong_of _ 0 1 (by decide +kernel) (by decide +kernel) (fun _ => ⟨rfl, by rw [show (0 : Int) = ((0 : Nat) : Int) from rfl, itoa_small 0 (by omega)]; decide⟩)
  · exact wrong_of _ 1 1 (by decide +kernel) (by decide +kernel) (fun _ => ⟨rfl, by rw [show (1 : Int) = ((1 : Nat) : Int) from rfl, itoa_small 1 (by omega)]; decide⟩)
  · exact wrong_of _ 1 (-2) (by decide +kernel) (by decide +kernel) (fun k => by have := k.1; omega)
theorem e_parse (s : ByteArray) (hs : s ∈ wrongS) (w : World) (hE : PEnv w) : Calls Tryd.prog 19 #[.string s] w fun e w' => e = .returned (.tuple #[.agg #[.int .i64 0, .int .i64 0], .int .i64 11]) ∧ Below w.heap.size w w' := by
  refine parse_no s (wrong_all s hs) w hE ?_
  simp only [wrongS, List.mem_cons, List.not_mem_nil, or_false] at hs
  rcases hs with rfl | rfl | rfl | rfl | rfl <;> decide
end Go.Proofs.YtekpfgcpbipdpaaDoor
