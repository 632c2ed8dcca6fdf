/-
  Layer 1: products, quotients, and Make.
-/
import Derived.Test.YticclcimelibdaaTimes
namespace Go.Proofs.Yticclcimelibdaa
open Go.RowKit

theorem tdiv_in (t s : Int) (h1 : -4611686018427387903 ≤ t) (h2 : t ≤ 4611686018427387903) : -4611686018427387903 ≤ t.tdiv s ∧ t.tdiv s ≤ 4611686018427387903 := by
  have h1 : (t.tdiv s).natAbs ≤ t.natAbs := by
    rw [Int.natAbs_tdiv]; exact Nat.div_le_self _ _
  omega

theorem times_q (q r : Rat) (hq : fits q) (hr : fits r) (w : World) :
    Calls Try.prog 131 #[.agg #[.int .i64 (fn q), .int .i64 (fd q)], .agg #[.int .i64 (fn r), .int .i64 (fd r)]] w fun e w' => e = .returned (.tuple #[.agg #[.int .i64 (rn (q * r)), .int .i64 (rd (q * r))], .int .i64 (re (q * r))]) ∧ Below w.heap.size w w' := by
  have hq' := hq; have hr' := hr
  have fq := hq; have fr' := hr; unfold fits at fq fr'; obtain ⟨q1, q2, q3⟩ := fq; obtain ⟨r1, r2, r3⟩ := fr'; have q4 := fd_pos q; have r4 := fd_pos r
  have mg : ∀ x y, gcdI (mag x) y = gcdI x y := by
    intro x y; unfold gcdI; rw [mag_natAbs, Int.gcd_eq_natAbs_gcd_natAbs, Int.gcd_eq_natAbs_gcd_natAbs, Int.natAbs_natCast]
  obtain ⟨g, hg⟩ : ∃ g, g = gcdI (fn q) (fd r) := ⟨_, rfl⟩
  obtain ⟨h, hh⟩ : ∃ h, h = gcdI (fn r) (fd q) := ⟨_, rfl⟩
  obtain ⟨p1, p2⟩ := mul_parts q r g h hg hh
  have g1 : 0 < g := by rw [hg]; exact gcdI_pos_right _ _ (by omega)
  have g2 : g ≤ fd r := by rw [hg]; exact gcdI_le_right _ _ (by omega)
  have h1 : 0 < h := by rw [hh]; exact gcdI_pos_right _ _ (by omega)
  have h2 : h ≤ fd q := by rw [hh]; exact gcdI_le_right _ _ (by omega)
  have ba := tdiv_in (fn q) g q1 q2
  have bb := tdiv_in (fn r) h r1 r2
  have bc := div_bounds (fd q) h (by omega) h1 h2
  have bd := div_bounds (fd r) g (by omega) g1 g2
  have m0 := mag_lo (fn q); have m1 := mag_le (fn q) (by omega) (by omega); have m2 := mag_lo (fn r); have m3 := mag_le (fn r) (by omega) (by omega)
  have t1 := mul_bound ((fn q).tdiv g) ((fn r).tdiv h) 4611686018427387903 4611686018427387903 ba bb (by omega) (by omega)
  have t2 := mul_bound (fd q / h) (fd r / g) 4611686018427387903 4611686018427387903 ⟨by omega, by omega⟩ ⟨by omega, by omega⟩ (by omega) (by omega)
  refine times_walk q r hq' hr' g h _ _ (fd q / h) (fd r / g) _ _ _ w ?_ (by omega) (by omega) ?_ (by omega) (by omega) (IntWalk.i64_in _ ⟨by omega, by omega⟩) (IntWalk.i64_in _ ⟨by omega, by omega⟩) ?_ ?_ ba.1 ba.2 bb.1 bb.2 (by omega) (by omega) (by omega) (by omega) ?_
  · intro w; rw [hg, ← mg]; exact divisor_any _ _ (by omega) (by omega) (by omega) (by omega) w
  · intro w; rw [hh, ← mg]; exact divisor_any _ _ (by omega) (by omega) (by omega) (by omega) w
  · rw [Int.tdiv_eq_ediv_of_nonneg (by omega)]; exact IntWalk.i64_in _ ⟨by omega, by omega⟩
  · rw [Int.tdiv_eq_ediv_of_nonneg (by omega)]; exact IntWalk.i64_in _ ⟨by omega, by omega⟩
  · intro w; exact fraction_q (q * r) _ _ p1 p2 w (by omega) (by omega) (by omega)

theorem fits_inv (r : Rat) (h : fits r) (h0 : fn r ≠ 0) : fits r⁻¹ := by
  obtain ⟨a, b⟩ := inv_parts r h0
  have := fd_pos r
  unfold fits at *
  rcases (show fn r < 0 ∨ 0 ≤ fn r by omega) with k | k
  · obtain ⟨a1, a2⟩ := a k; rw [a1, a2]; omega
  · obtain ⟨a1, a2⟩ := b k; rw [a1, a2]; omega

set_option maxHeartbeats 1000000 in
theorem inverse_q (r : Rat) (hr : fits r) (h0 : fn r ≠ 0) (w : World) :
    Calls Try.prog 108 #[.agg #[.int .i64 (fn r), .int .i64 (fd r)]] w fun e w' => e = .returned (.agg #[.int .i64 (fn r⁻¹), .int .i64 (fd r⁻¹)]) ∧ Below w.heap.size w w' := by
  obtain ⟨a, b⟩ := inv_parts r h0
  have f4 := fd_pos r
  have hf := hr
  unfold fits at hf
  obtain ⟨f1, f2, f3⟩ := hf
  rcases (show fn r < 0 ∨ 0 ≤ fn r by omega) with k | k
  · obtain ⟨a1, a2⟩ := a k
    rw [a1, a2]
    clear a b a1 a2 h0
    go_enter Try.func108, Try.ntmps108
    go_wp2
    exact bodyPost_ret (v := .agg #[.int .i64 (-fd r), .int .i64 (-fn r)]) (by simp only [results, Try.results108]; go_simp) rfl ⟨rfl, by (repeat' (first | (with_reducible exact Below.refl _ _) | (with_reducible assumption) | (with_reducible refine belowThru ?_ (by assumption)) | (with_reducible refine belowAlloc ?_) | (with_reducible refine Below.setCell ?_ (by first | omega | (simp; done) | (simp; omega)) _) | (with_reducible refine Below.drew ?_) | (with_reducible refine below_drewN ?_ _)))⟩
  · obtain ⟨a1, a2⟩ := b k
    rw [a1, a2]
    clear a b a1 a2 h0
    go_enter Try.func108, Try.ntmps108
    go_wp2
    exact bodyPost_ret (v := .agg #[.int .i64 (fd r), .int .i64 (fn r)]) (by simp only [results, Try.results108]; go_simp) rfl ⟨rfl, by (repeat' (first | (with_reducible exact Below.refl _ _) | (with_reducible assumption) | (with_reducible refine belowThru ?_ (by assumption)) | (with_reducible refine belowAlloc ?_) | (with_reducible refine Below.setCell ?_ (by first | omega | (simp; done) | (simp; omega)) _) | (with_reducible refine Below.drew ?_) | (with_reducible refine below_drewN ?_ _)))⟩

end Go.Proofs.Yticclcimelibdaa
