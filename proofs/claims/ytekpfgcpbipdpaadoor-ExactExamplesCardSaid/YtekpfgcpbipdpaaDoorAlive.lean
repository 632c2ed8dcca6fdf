/-
  The statements' own examples: alive.
-/
import Derived.Test.YtekpfgcpbipdpaaDoorWhole
namespace Go.Proofs.YtekpfgcpbipdpaaDoor
open Go.RowKit

def L1_2 : Rat := mkR 1 2
theorem L1_2_n : fn L1_2 = 1 := by kernel_rfl
theorem L1_2_d : fd L1_2 = 2 := by kernel_rfl
theorem L1_2_f : fits L1_2 := of_decide_eq_true (by kernel_rfl)
def L1_3 : Rat := mkR 1 3
theorem L1_3_n : fn L1_3 = 1 := by kernel_rfl
theorem L1_3_d : fd L1_3 = 3 := by kernel_rfl
theorem L1_3_f : fits L1_3 := of_decide_eq_true (by kernel_rfl)
def Lm3_4 : Rat := mkR (-3) 4
theorem Lm3_4_n : fn Lm3_4 = (-3) := by kernel_rfl
theorem Lm3_4_d : fd Lm3_4 = 4 := by kernel_rfl
theorem Lm3_4_f : fits Lm3_4 := of_decide_eq_true (by kernel_rfl)
def Lm7_2 : Rat := mkR (-7) 2
theorem Lm7_2_n : fn Lm7_2 = (-7) := by kernel_rfl
theorem Lm7_2_d : fd Lm7_2 = 2 := by kernel_rfl
theorem Lm7_2_f : fits Lm7_2 := of_decide_eq_true (by kernel_rfl)
def Lm3_2 : Rat := mkR (-3) 2
theorem Lm3_2_n : fn Lm3_2 = (-3) := by kernel_rfl
theorem Lm3_2_d : fd Lm3_2 = 2 := by kernel_rfl
theorem Lm3_2_f : fits Lm3_2 := of_decide_eq_true (by kernel_rfl)
def Lm1_1 : Rat := mkR (-1) 1
theorem Lm1_1_n : fn Lm1_1 = (-1) := by kernel_rfl
theorem Lm1_1_d : fd Lm1_1 = 1 := by kernel_rfl
theorem Lm1_1_f : fits Lm1_1 := of_decide_eq_true (by kernel_rfl)
def L2_1 : Rat := mkR 2 1
theorem L2_1_n : fn L2_1 = 2 := by kernel_rfl
theorem L2_1_d : fd L2_1 = 1 := by kernel_rfl
theorem L2_1_f : fits L2_1 := of_decide_eq_true (by kernel_rfl)
def Lm3_1 : Rat := mkR (-3) 1
theorem Lm3_1_n : fn Lm3_1 = (-3) := by kernel_rfl
theorem Lm3_1_d : fd Lm3_1 = 1 := by kernel_rfl
theorem Lm3_1_f : fits Lm3_1 := of_decide_eq_true (by kernel_rfl)
def L5_1 : Rat := mkR 5 1
theorem L5_1_n : fn L5_1 = 5 := by kernel_rfl
theorem L5_1_d : fd L5_1 = 1 := by kernel_rfl
theorem L5_1_f : fits L5_1 := of_decide_eq_true (by kernel_rfl)
def L10_1 : Rat := mkR 10 1
theorem L10_1_n : fn L10_1 = 10 := by kernel_rfl
theorem L10_1_d : fd L10_1 = 1 := by kernel_rfl
theorem L10_1_f : fits L10_1 := of_decide_eq_true (by kernel_rfl)
def Lm6_1 : Rat := mkR (-6) 1
theorem Lm6_1_n : fn Lm6_1 = (-6) := by kernel_rfl
theorem Lm6_1_d : fd Lm6_1 = 1 := by kernel_rfl
theorem Lm6_1_f : fits Lm6_1 := of_decide_eq_true (by kernel_rfl)

theorem x_make (w : World) : Calls Tryd.prog 7 #[.int .i64 6, .int .i64 (-4)] w fun e w' => e = .returned (.tuple #[.agg #[.int .i64 (-3), .int .i64 2], .int .i64 0]) ∧ Below w.heap.size w w' := by
  have h := make_q 6 (-4) w (by omega) (by omega) (by omega) (by omega) (by omega)
  rw [show rn (mkR 6 (-4)) = -3 by kernel_rfl, show rd (mkR 6 (-4)) = 2 by kernel_rfl, show re (mkR 6 (-4)) = 0 by kernel_rfl] at h
  exact h

theorem x_add (w : World) : Calls Tryd.prog 14 #[.agg #[.int .i64 1, .int .i64 2], .agg #[.int .i64 1, .int .i64 3]] w fun e w' => e = .returned (.tuple #[.agg #[.int .i64 5, .int .i64 6], .int .i64 0]) ∧ Below w.heap.size w w' := by
  have h := add_q L1_2 L1_3 L1_2_f L1_3_f  w
  rw [show rn (L1_2 + L1_3) = 5 by kernel_rfl, show rd (L1_2 + L1_3) = 6 by kernel_rfl, show re (L1_2 + L1_3) = 0 by kernel_rfl, L1_2_n, L1_2_d, L1_3_n, L1_3_d] at h
  exact h

theorem x_div (w : World) : Calls Tryd.prog 10 #[.agg #[.int .i64 1, .int .i64 2], .agg #[.int .i64 (-3), .int .i64 4]] w fun e w' => e = .returned (.tuple #[.agg #[.int .i64 (-2), .int .i64 3], .int .i64 0]) ∧ Below w.heap.size w w' := by
  have h := div_q L1_2 Lm3_4 L1_2_f Lm3_4_f (by rw [Lm3_4_n]; decide) w
  rw [show rn (L1_2 / Lm3_4) = (-2) by kernel_rfl, show rd (L1_2 / Lm3_4) = 3 by kernel_rfl, show re (L1_2 / Lm3_4) = 0 by kernel_rfl, L1_2_n, L1_2_d, Lm3_4_n, Lm3_4_d] at h
  exact h

theorem x_floor (w : World) : Calls Tryd.prog 17 #[.agg #[.int .i64 (-7), .int .i64 2]] w fun e w' => e = .returned (.tuple #[.int .i64 (-4), .int .i64 0]) ∧ Below w.heap.size w w' := by
  have h := floor_q Lm7_2 Lm7_2_f w
  rw [show floorQ Lm7_2 = -4 by kernel_rfl, Lm7_2_n, Lm7_2_d] at h
  exact h
theorem x_textB : textB Lm3_2 = ⟨#[45, 51, 47, 50]⟩ := by
  unfold textB itoaB
  rw [if_neg (by rw [Lm3_2_d]; decide), Lm3_2_n, Lm3_2_d]
  have e1 : Lib.itoa (-3) = [45, 51] := by unfold Lib.itoa; rw [if_pos (by decide)]; show 45 :: Lib.decDigits 3 = _; rw [Lib.decDigits, dif_pos (by decide)]; rfl
  have e2 : Lib.itoa 2 = [50] := by unfold Lib.itoa; rw [if_neg (by decide)]; show Lib.decDigits 2 = _; rw [Lib.decDigits, dif_pos (by decide)]; rfl
  rw [e1, e2]
  rfl
theorem x_text (w : World) (hT : Tab w) : Calls Tryd.prog 18 #[.agg #[.int .i64 (-3), .int .i64 2]] w fun e w' => e = .returned (.tuple #[.string ⟨#[45, 51, 47, 50]⟩, .int .i64 0]) ∧ Below w.heap.size w w' := by
  have h := textCall_q Lm3_2 Lm3_2_f w hT
  rw [x_textB, Lm3_2_n, Lm3_2_d] at h
  exact h
theorem x_mulSpans (w : World) : Calls Tryd.prog 44 #[.agg #[.int .i64 (-1), .int .i64 1, .int .i64 2, .int .i64 1], .agg #[.int .i64 (-3), .int .i64 1, .int .i64 5, .int .i64 1]] w fun e w' => e = .returned (.tuple #[.agg #[.int .i64 (-6), .int .i64 1, .int .i64 10, .int .i64 1], .int .i64 0]) ∧ Below w.heap.size w w' := by
  have h := mulSpans_q Lm1_1 L2_1 Lm3_1 L5_1 Lm1_1_f L2_1_f Lm3_1_f L5_1_f (of_decide_eq_true (by kernel_rfl)) (of_decide_eq_true (by kernel_rfl)) w
  have ok : fits (Lm1_1 * Lm3_1) ∧ fits (Lm1_1 * L5_1) ∧ fits (L2_1 * Lm3_1) ∧ fits (L2_1 * L5_1) := of_decide_eq_true (by kernel_rfl)
  rw [oz_yes ok, oz_yes ok, oz_yes ok, oz_yes ok, oe_yes ok,
    show fn (loQ (Lm1_1 * Lm3_1) [Lm1_1 * L5_1, L2_1 * Lm3_1, L2_1 * L5_1]) = -6 by kernel_rfl, show fd (loQ (Lm1_1 * Lm3_1) [Lm1_1 * L5_1, L2_1 * Lm3_1, L2_1 * L5_1]) = 1 by kernel_rfl,
    show fn (hiQ (Lm1_1 * Lm3_1) [Lm1_1 * L5_1, L2_1 * Lm3_1, L2_1 * L5_1]) = 10 by kernel_rfl, show fd (hiQ (Lm1_1 * Lm3_1) [Lm1_1 * L5_1, L2_1 * Lm3_1, L2_1 * L5_1]) = 1 by kernel_rfl,
    Lm1_1_n, Lm1_1_d, L2_1_n, L2_1_d, Lm3_1_n, Lm3_1_d, L5_1_n, L5_1_d] at h
  exact h
theorem x_root (w : World) : Calls Tryd.prog 26 #[.agg #[.int .i64 2, .int .i64 1], .int .i64 10] w fun e w' => e = .returned (.tuple #[.agg #[.int .i64 7, .int .i64 5, .int .i64 3, .int .i64 2], .int .i64 0]) ∧ Below w.heap.size w w' := by
  have m : rootM L2_1 10 = 200 := by kernel_rfl
  have h := root_q L2_1 L2_1_f (by rw [L2_1_n]; decide) 10 14 15 (by omega) (by omega) (by omega) (by rw [m]; omega) (by rw [if_neg (by rw [m]; omega)]; rfl) w
  rw [show fn (mkR 14 10) = 7 by kernel_rfl, show fd (mkR 14 10) = 5 by kernel_rfl, show fn (mkR 15 10) = 3 by kernel_rfl, show fd (mkR 15 10) = 2 by kernel_rfl, L2_1_n, L2_1_d] at h
  exact h
theorem x_in (w : World) : Calls Tryd.prog 33 #[.agg #[.int .i64 (-6), .int .i64 1, .int .i64 10, .int .i64 1], .agg #[.int .i64 10, .int .i64 1]] w fun e w' => e = .returned (.tuple #[.bool true, .int .i64 0]) ∧ Below w.heap.size w w' := by
  have h := in_q Lm6_1 L10_1 L10_1 Lm6_1_f L10_1_f L10_1_f (of_decide_eq_true (by kernel_rfl)) w
  rw [show hasQ Lm6_1 L10_1 L10_1 = true by kernel_rfl, Lm6_1_n, Lm6_1_d, L10_1_n, L10_1_d] at h
  exact h

set_option maxHeartbeats 1000000 in
theorem whole_any (n : Int) (w : World) :
    Calls Tryd.prog 11 #[.int .i64 n] w fun e w' => e = .returned (.agg #[.int .i64 n, .int .i64 1]) ∧ Below w.heap.size w w' := by
  go_enter Tryd.func11, Tryd.ntmps11
  go_wp2
  exact bodyPost_ret (v := .agg #[.int .i64 n, .int .i64 1]) (by simp only [results, Tryd.results11]; go_simp) rfl ⟨rfl, by (repeat' (first | (with_reducible exact Below.refl _ _) | (with_reducible assumption) | (with_reducible refine belowThru ?_ (by assumption)) | (with_reducible refine belowAlloc ?_) | (with_reducible refine Below.setCell ?_ (by first | omega | (simp; done) | (simp; omega)) _) | (with_reducible refine Below.drew ?_) | (with_reducible refine below_drewN ?_ _)))⟩
set_option maxHeartbeats 1000000 in
theorem span_any (a b : Int) (w : World) :
    Calls Tryd.prog 21 #[.int .i64 a, .int .i64 b] w fun e w' => e = .returned (.agg #[.int .i64 a, .int .i64 1, .int .i64 b, .int .i64 1]) ∧ Below w.heap.size w w' := by
  go_enter Tryd.func21, Tryd.ntmps21
  go_wp2_with (go_at_call 11; (with_reducible refine (whole_any _ _).mono ?_); rintro e w1 ⟨rfl, hb⟩; obtain ⟨hc, hf⟩ := bcell hb; (try simp only [World.heap_drewN] at hc hf); (try simp only [heap_drew] at hc hf); have hz := hb.size; (try simp at hz); try (have hz0 : w.heap.size < w1.heap.size := by omega); try (have hz1 : w.heap.size + 1 < w1.heap.size := by omega); try (have hz2 : w.heap.size + 1 + 1 < w1.heap.size := by omega); try (have hz3 : w.heap.size + 1 + 1 + 1 < w1.heap.size := by omega); try (have hz4 : w.heap.size + 1 + 1 + 1 + 1 < w1.heap.size := by omega); try (have hz5 : w.heap.size + 1 + 1 + 1 + 1 + 1 < w1.heap.size := by omega))
  exact bodyPost_ret (v := .agg #[.int .i64 a, .int .i64 1, .int .i64 b, .int .i64 1]) (by simp only [results, Tryd.results21]; go_simp) rfl ⟨rfl, by (repeat' (first | (with_reducible exact Below.refl _ _) | (with_reducible assumption) | (with_reducible refine belowThru ?_ (by assumption)) | (with_reducible refine belowAlloc ?_) | (with_reducible refine Below.setCell ?_ (by first | omega | (simp; done) | (simp; omega)) _) | (with_reducible refine Below.drew ?_) | (with_reducible refine below_drewN ?_ _)))⟩
set_option maxHeartbeats 1000000 in
theorem is_true (a b : Int) (w : World) :
    Calls Tryd.prog 13 #[.agg #[.int .i64 a, .int .i64 b], .int .i64 0, .int .i64 a, .int .i64 b] w fun e w' => e = .returned (.bool true) ∧ Below w.heap.size w w' := by
  go_enter Tryd.func13, Tryd.ntmps13
  go_wp2
  go_ret
  exact ⟨rfl, by (repeat' (first | (with_reducible exact Below.refl _ _) | (with_reducible assumption) | (with_reducible refine belowThru ?_ (by assumption)) | (with_reducible refine belowAlloc ?_) | (with_reducible refine Below.setCell ?_ (by first | omega | (simp; done) | (simp; omega)) _) | (with_reducible refine Below.drew ?_) | (with_reducible refine below_drewN ?_ _)))⟩
set_option maxHeartbeats 1000000 in
theorem from_true (a b c d : Int) (w : World) :
    Calls Tryd.prog 25 #[.agg #[.int .i64 a, .int .i64 b, .int .i64 c, .int .i64 d], .int .i64 0, .int .i64 a, .int .i64 b, .int .i64 c, .int .i64 d] w fun e w' => e = .returned (.bool true) ∧ Below w.heap.size w w' := by
  go_enter Tryd.func25, Tryd.ntmps25
  go_wp2
  go_ret
  exact ⟨rfl, by (repeat' (first | (with_reducible exact Below.refl _ _) | (with_reducible assumption) | (with_reducible refine belowThru ?_ (by assumption)) | (with_reducible refine belowAlloc ?_) | (with_reducible refine Below.setCell ?_ (by first | omega | (simp; done) | (simp; omega)) _) | (with_reducible refine Below.drew ?_) | (with_reducible refine below_drewN ?_ _)))⟩
end Go.Proofs.YtekpfgcpbipdpaaDoor
