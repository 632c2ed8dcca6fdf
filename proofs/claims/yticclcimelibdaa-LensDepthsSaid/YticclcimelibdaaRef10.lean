/-
  The document's own answers, layer 1: fractions made, sums and differences.
-/
import Derived.Test.YticclcimelibdaaRef9
import Derived.Test.YticclcimelibdaaRef7
namespace Go.Proofs.Yticclcimelibdaa
open Go.RowKit

theorem rplus_q (q r : Rat) (hq : fits q) (hr : fits r) (w : World) :
    Calls Try.prog 138 #[.agg #[.int .i64 (fn q), .int .i64 (fd q)], .agg #[.int .i64 (fn r), .int .i64 (fd r)]] w fun e w' => e = .returned (.tuple #[.agg #[.int .i64 (rn (q + r)), .int .i64 (rd (q + r))], .bool (decide (re (q + r) = 0))]) ∧ Below w.heap.size w w' := by
  have b1 := prod_bound q r hq hr
  have b2 := prod_bound r q hr hq
  have fq := hq; have fr' := hr; unfold fits at fq fr'; obtain ⟨q1, q2, q3⟩ := fq; obtain ⟨r1, r2, r3⟩ := fr'; have q4 := fd_pos q; have r4 := fd_pos r
  have e1 := mag_mul_pos (fn q) (fd r) r4
  have e2 := mag_mul_pos (fn r) (fd q) q4
  have s1 := sg_mul (fn q) (fd r) r4
  have s2 := sg_mul (fn r) (fd q) q4
  have m1 := mag_lo (fn q); have m2 := mag_le (fn q) (by omega) (by omega); have m3 := mag_lo (fn r); have m4 := mag_le (fn r) (by omega) (by omega)
  have HX := Lib.hid (fun w => rtimes_any (mag (fn q)) (fd r) (by omega) (by omega) (by omega) (by omega) w)
  have HY := Lib.hid (fun w => rtimes_any (mag (fn r)) (fd q) (by omega) (by omega) (by omega) (by omega) w)
  have HZ := Lib.hid (fun w => rtimes_any (fd q) (fd r) (by omega) (by omega) (by omega) (by omega) w)
  have hx := mkR_add q r
  have c2 := mag_mul_bound (fd q) (fd r) (by omega) (by omega) (by omega) (by omega)
  have c3 : 1 ≤ fd q * fd r := by have := Int.mul_pos (show 0 < fd q by omega) (show 0 < fd r by omega); omega
  rw [e1] at HX
  rw [e2] at HY
  obtain ⟨p, hp⟩ : ∃ p, p = fn q * fd r := ⟨_, rfl⟩
  obtain ⟨p', hp'⟩ : ∃ p', p' = fn r * fd q := ⟨_, rfl⟩
  obtain ⟨Z, hZ⟩ : ∃ Z, Z = fd q * fd r := ⟨_, rfl⟩
  rw [← hp] at e1 s1 b1 HX hx
  rw [← hp'] at e2 s2 b2 HY hx
  rw [← hZ] at HZ c2 c3 hx
  have g1 := mag_sg p; have g2 := mag_sg p'
  have M1 := mag_lo p; have M2 := mag_lo p'
  have M3 : mag p ≤ 21267647932558653957237540927630737409 := by have := mag_natAbs p; omega
  have M4 : mag p' ≤ 21267647932558653957237540927630737409 := by have := mag_natAbs p'; omega
  have k1 := sg p; have k2 := sg p'
  have hb := mul_bound p.sign p'.sign 1 1 (by omega) (by omega) (by omega) (by omega)
  have hl : (decide (mag p < mag p') = true ∧ mag p < mag p') ∨ (decide (mag p < mag p') = false ∧ ¬ mag p < mag p') := by
    by_cases h : mag p < mag p'
    · exact .inl ⟨decide_eq_true h, h⟩
    · exact .inr ⟨decide_eq_false h, h⟩
  have HE := rless_any (mag p) (mag p') M1 (by omega) M2 (by omega)
  have hs : (0 ≤ p.sign * p'.sign ∧ (p.sign + p'.sign < 0 → -(mag p + mag p') = p + p') ∧ (¬ p.sign + p'.sign < 0 → mag p + mag p' = p + p')) ∨
      (p.sign * p'.sign < 0 ∧ (mag p < mag p' → (p'.sign < 0 → -(mag p' - mag p) = p + p') ∧ (¬ p'.sign < 0 → mag p' - mag p = p + p')) ∧ (¬ mag p < mag p' → (p.sign < 0 → -(mag p - mag p') = p + p') ∧ (¬ p.sign < 0 → mag p - mag p' = p + p'))) := by
    rcases k1 with ⟨h1, h2⟩ | ⟨h1, h2⟩ | ⟨h1, h2⟩ <;> rcases k2 with ⟨h3, h4⟩ | ⟨h3, h4⟩ | ⟨h3, h4⟩ <;> rw [h2, h4] <;> omega
  have walk := fun v U1 U0 A B ok => rplus_walk (fn q) (fd q) (fn r) (fd r) (fn q).sign (fn r).sign v ((fn q).sign * (fn r).sign) (mag (fn q)) (mag (fn r)) (whi (mag p)) (wlo (mag p)) (whi (mag p')) (wlo (mag p')) (whi Z) (wlo Z) U1 U0 A B ok w
    (IntWalk.i64_in _ (by rw [← s1, ← s2]; omega)) (Lib.hid (rsign_any _)) (Lib.hid (rsign_any _)) (Lib.hid (rsize_any _ (by omega) (by omega))) (Lib.hid (rsize_pos _ (by omega) (by omega))) (Lib.hid (rsize_any _ (by omega) (by omega))) (Lib.hid (rsize_pos _ (by omega) (by omega))) HX HY HZ
  rw [← s1, ← s2] at walk
  rcases hs with ⟨y1, y2, y3⟩ | ⟨y1, y2, y3⟩
  · refine walk (p.sign + p'.sign) _ _ _ _ _ (.inl ⟨y1, IntWalk.i64_in _ (by omega), Lib.hid (rplus_any (mag p) (mag p')), Lib.hid (lowest_q (q + r) _ (mag p + mag p') Z (by omega) (by omega) c3 (by omega) ?_)⟩)
    rw [← hx]; congr 1; split <;> omega
  · rcases hl with ⟨l1, l2⟩ | ⟨l1, l2⟩
    · rw [l1] at HE
      refine walk 0 _ _ _ _ _ (.inr (.inl ⟨y1, Lib.hid HE, Lib.hid (rminus_any (mag p') (mag p)), Lib.hid (lowest_q (q + r) _ (mag p' - mag p) Z (by omega) (by omega) c3 (by omega) ?_)⟩))
      have y4 := y2 l2
      rw [← hx]; congr 1; split <;> omega
    · rw [l1] at HE
      refine walk 0 _ _ _ _ _ (.inr (.inr ⟨y1, Lib.hid HE, Lib.hid (rminus_any (mag p) (mag p')), Lib.hid (lowest_q (q + r) _ (mag p - mag p') Z (by omega) (by omega) c3 (by omega) ?_)⟩))
      have y4 := y3 l2
      rw [← hx]; congr 1; split <;> omega


end Go.Proofs.Yticclcimelibdaa
