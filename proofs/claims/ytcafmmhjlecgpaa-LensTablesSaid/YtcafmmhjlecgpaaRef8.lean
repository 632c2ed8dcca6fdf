/-
  The document's own answers, layer 1: order, products, quotients and sums of rational numbers that fit.
-/
import Derived.Test.YtcafmmhjlecgpaaRef5
import Derived.Test.YtcafmmhjlecgpaaRef6
import Derived.Test.YtcafmmhjlecgpaaOps
namespace Go.Proofs.Ytcafmmhjlecgpaa
open Go.RowKit

theorem sg (p : Int) : (p < 0 ∧ p.sign = -1) ∨ (p = 0 ∧ p.sign = 0) ∨ (0 < p ∧ p.sign = 1) := by
  rcases Int.lt_trichotomy p 0 with h | h | h
  · exact .inl ⟨h, Int.sign_eq_neg_one_of_neg h⟩
  · exact .inr (.inl ⟨h, by rw [h]; rfl⟩)
  · exact .inr (.inr ⟨h, Int.sign_eq_one_of_pos h⟩)
theorem sg_mul (n d : Int) (hd : 1 ≤ d) : (n * d).sign = n.sign := by
  rw [Int.sign_mul, Int.sign_eq_one_of_pos (show 0 < d by omega), Int.mul_one]
theorem mag_mul_pos (n d : Int) (hd : 1 ≤ d) : mag n * d = mag (n * d) := by
  have := mag_mul n d
  rwa [mag_pos d (by omega)] at this
theorem mag_sg (p : Int) : (p < 0 → mag p = -p) ∧ (0 ≤ p → mag p = p) := ⟨mag_neg p, mag_pos p⟩

theorem rsize_pos (d : Int) (h : 0 ≤ d) (h2 : d ≤ 9223372036854775807) (w : World) :
    Calls Try.prog 113 #[.int .i64 d] w fun e w' => e = .returned (.int .u64 d) ∧ w = w' := by
  have := rsize_any d (by omega) h2 w
  rwa [mag_pos d h] at this

theorem rorder_q (q r : Rat) (hq : fits q) (hr : fits r) (w : World) :
    Calls Try.prog 89 #[.agg #[.int .i64 (fn q), .int .i64 (fd q)], .agg #[.int .i64 (fn r), .int .i64 (fd r)]] w fun e w' => e = .returned (.int .i64 (ordQ q r)) ∧ Below w.heap.size w w' := by
  have b1 := prod_bound q r hq hr
  have b2 := prod_bound r q hr hq
  have fq := hq; have fr' := hr; unfold fits at fq fr'; obtain ⟨q1, q2, q3⟩ := fq; obtain ⟨r1, r2, r3⟩ := fr'; have q4 := fd_pos q; have r4 := fd_pos r
  have e1 := mag_mul_pos (fn q) (fd r) r4
  have e2 := mag_mul_pos (fn r) (fd q) q4
  have s1 := sg_mul (fn q) (fd r) r4
  have s2 := sg_mul (fn r) (fd q) q4
  have m1 := mag_lo (fn q); have m2 := mag_le (fn q) (by omega) (by omega); have m3 := mag_lo (fn r); have m4 := mag_le (fn r) (by omega) (by omega)
  have ho : ordQ q r = (fn q * fd r - fn r * fd q).sign := rfl
  have HX := Lib.hid (fun w => rtimes_any (mag (fn q)) (fd r) (by omega) (by omega) (by omega) (by omega) w)
  have HY := Lib.hid (fun w => rtimes_any (mag (fn r)) (fd q) (by omega) (by omega) (by omega) (by omega) w)
  rw [e1] at HX
  rw [e2] at HY
  obtain ⟨p, hp⟩ : ∃ p, p = fn q * fd r := ⟨_, rfl⟩
  obtain ⟨p', hp'⟩ : ∃ p', p' = fn r * fd q := ⟨_, rfl⟩
  rw [← hp] at e1 s1 ho b1 HX
  rw [← hp'] at e2 s2 ho b2 HY
  have g1 := mag_sg p; have g2 := mag_sg p'
  have M1 := mag_lo p; have M2 := mag_lo p'
  have M3 : mag p < 340282366920938463463374607431768211456 := by have := mag_natAbs p; omega
  have M4 : mag p' < 340282366920938463463374607431768211456 := by have := mag_natAbs p'; omega
  have hs := same_iff (mag p) (mag p') M1 M3 M2 M4
  refine rorder_walk (fn q) (fd q) (fn r) (fd r) (fn q).sign (fn r).sign ((fn q).sign - (fn r).sign) ((fn q).sign - (fn r).sign).sign (mag (fn q)) (mag (fn r)) (whi (mag p)) (wlo (mag p)) (whi (mag p')) (wlo (mag p')) (ordQ q r) (decide (mag p < mag p')) w
    (Lib.hid (rsign_any _)) (Lib.hid (rsign_any _)) (Lib.hid (rsign_any _)) (Lib.hid (rsize_any _ (by omega) (by omega))) (Lib.hid (rsize_pos _ (by omega) (by omega))) (Lib.hid (rsize_any _ (by omega) (by omega))) (Lib.hid (rsize_pos _ (by omega) (by omega)))
    HX HY (Lib.hid (rless_any _ _ M1 M3 M2 M4)) ?_
  rw [← s1, ← s2, ho]
  have hl : (decide (mag p < mag p') = true ∧ mag p < mag p') ∨ (decide (mag p < mag p') = false ∧ ¬ mag p < mag p') := by
    by_cases h : mag p < mag p'
    · exact .inl ⟨decide_eq_true h, h⟩
    · exact .inr ⟨decide_eq_false h, h⟩
  have k1 := sg p; have k2 := sg p'; have k3 := sg (p - p'); have k4 := sg (p.sign - p'.sign)
  by_cases hne : p.sign = p'.sign
  · refine .inr ⟨by rw [hne]; simp, ?_⟩
    by_cases hX : mag p = mag p'
    · exact .inl ⟨(hs.2 hX).1, (hs.2 hX).2, by omega⟩
    · refine .inr ⟨?_, ?_⟩
      · by_cases h : whi (mag p) = whi (mag p')
        · exact .inr ⟨h, fun k => hX (hs.1 ⟨h, k⟩)⟩
        · exact .inl h
      · rcases hl with ⟨l1, l2⟩ | ⟨l1, l2⟩
        · exact .inl ⟨l1, by rw [IntWalk.i64_in _ (by omega)]; omega⟩
        · exact .inr ⟨l1, by omega⟩
  · exact .inl ⟨by simpa using hne, IntWalk.i64_in _ (by omega), by omega⟩

theorem mkR_self (q : Rat) : mkR (fn q) (fd q) = q := Rat.num_divInt_den q
theorem mkR_mul (q r : Rat) : mkR (fn q * fn r) (fd q * fd r) = q * r := by
  conv => rhs; rw [← mkR_self q, ← mkR_self r]
  unfold mkR
  rw [Rat.divInt_mul_divInt]
theorem mkR_add (q r : Rat) : mkR (fn q * fd r + fn r * fd q) (fd q * fd r) = q + r := by
  conv => rhs; rw [← mkR_self q, ← mkR_self r]
  unfold mkR
  rw [Rat.divInt_add_divInt _ _ (fd_ne q) (fd_ne r)]

end Go.Proofs.Ytcafmmhjlecgpaa
