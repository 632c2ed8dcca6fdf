/-
  The law GaugeNoise for any arguments.
-/
import Derived.Test.YtbcgebobfnclnaaQGLawNoi
import Derived.Test.YtbcgebobfnclnaaM6
namespace Go.Proofs.Ytbcgebobfnclnaa
open Go.RowKit Go.Shelf
set_option linter.unusedVariables false
set_option linter.unusedSimpArgs false

theorem ne_of_zero {e : Int} (h : ¬ e = 0) : (e != 0) = true := by simpa using h
theorem inside_true (l h m n : Rat) (fl : fits l) (fh : fits h) (fm : fits m) (fn' : fits n) (hlh : l ≤ h) (hmn : m ≤ n) (k : m ≤ l ∧ h ≤ n) (w : World) :
    Calls Try.prog 55 #[.agg #[.int .i64 (fn l), .int .i64 (fd l), .int .i64 (fn h), .int .i64 (fd h)], .agg #[.int .i64 (fn m), .int .i64 (fd m), .int .i64 (fn n), .int .i64 (fd n)]] w fun e w' => e = .returned (.bool true) ∧ Below w.heap.size w w' := by
  have := inside_q l h m n fl fh fm fn' hlh hmn w
  rwa [decide_eq_true k] at this
theorem noise_true (a : Option Addr) (n c : Nat) (zs : List Int) (t p le mo : Int) (w : World) (hn : n ≤ maxLen) (hR : Row w a n (iv zs)) :
    Calls Try.prog 12 #[.slice a n c, .int .i64 t, .int .i64 p, .int .i64 le, .int .i64 mo] w fun e w' => e = .returned (.bool true) ∧ Below w.heap.size w w' := by
  by_cases hl : n ≤ 64
  case neg => exact noise_skip0 a n c zs t p le mo w hR hn (by omega)
  by_cases h0 : le < 0
  · exact noise_skip1 a n c zs t p le mo w hR hn hl h0
  by_cases h1 : mo < le
  · exact noise_skip2 a n c zs t p le mo w hR hn hl h0 h1
  have A1 := fun w => ri_any a n c zs t p mo hn w
  have A2 := fun w => ri_any a n c zs t p le hn w
  have B1 := fun w => fa_any a n c zs t p mo hn w
  have B2 := fun w => fa_any a n c zs t p le hn w
  have C1 := fun w => wi_any a n c zs t mo hn w
  have C2 := fun w => wi_any a n c zs t le hn w
  by_cases e0 : riE t zs p mo = 0
  · obtain ⟨g0, l0, u0, m0, n0, q0, r0, f1, f2, f3, f4, j1, j2, j3, j4⟩ := ri_less (show 0 ≤ le by omega) (show le ≤ mo by omega) e0
    rw [e0, r0] at A1
    rw [g0, q0] at A2
    have K0 := fun w => inside_true l0 u0 m0 n0 f1 f2 f3 f4 j1 j2 ⟨j3, j4⟩ w
    by_cases e1 : faE t zs p mo = 0
    · obtain ⟨g1, l1, u1, m1, n1, q1, r1, f1, f2, f3, f4, j1, j2, j3, j4⟩ := fa_less (show 0 ≤ le by omega) (show le ≤ mo by omega) e1
      rw [e1, r1] at B1
      rw [g1, q1] at B2
      have K1 := fun w => inside_true l1 u1 m1 n1 f1 f2 f3 f4 j1 j2 ⟨j3, j4⟩ w
      by_cases e2 : wiE t zs mo = 0
      · obtain ⟨g2, l2, u2, m2, n2, q2, r2, f1, f2, f3, f4, j1, j2, j3, j4⟩ := wi_less (show 0 ≤ le by omega) (show le ≤ mo by omega) e2
        rw [e2, r2] at C1
        rw [g2, q2] at C2
        have K2 := fun w => inside_true l2 u2 m2 n2 f1 f2 f3 f4 j1 j2 ⟨j3, j4⟩ w
        exact noise_111 a n c zs t p le mo w hR hl h0 h1 _ _ _ _ _ _ _ _ _ _ _ _ _ _ _ _ _ _ _ _ _ _ _ _ 0 0 0 0 0 0 A1 A2 K0 B1 B2 K1 C1 C2 K2
      · have K2 := ne_of_zero e2
        exact noise_110 a n c zs t p le mo w hR hl h0 h1 _ _ _ _ _ _ _ _ _ _ _ _ _ _ _ _ _ _ _ _ _ _ _ _ 0 0 0 0 _ _ A1 A2 K0 B1 B2 K1 C1 C2 K2
    · have K1 := ne_of_zero e1
      by_cases e2 : wiE t zs mo = 0
      · obtain ⟨g2, l2, u2, m2, n2, q2, r2, f1, f2, f3, f4, j1, j2, j3, j4⟩ := wi_less (show 0 ≤ le by omega) (show le ≤ mo by omega) e2
        rw [e2, r2] at C1
        rw [g2, q2] at C2
        have K2 := fun w => inside_true l2 u2 m2 n2 f1 f2 f3 f4 j1 j2 ⟨j3, j4⟩ w
        exact noise_101 a n c zs t p le mo w hR hl h0 h1 _ _ _ _ _ _ _ _ _ _ _ _ _ _ _ _ _ _ _ _ _ _ _ _ 0 0 _ _ 0 0 A1 A2 K0 B1 B2 K1 C1 C2 K2
      · have K2 := ne_of_zero e2
        exact noise_100 a n c zs t p le mo w hR hl h0 h1 _ _ _ _ _ _ _ _ _ _ _ _ _ _ _ _ _ _ _ _ _ _ _ _ 0 0 _ _ _ _ A1 A2 K0 B1 B2 K1 C1 C2 K2
  · have K0 := ne_of_zero e0
    by_cases e1 : faE t zs p mo = 0
    · obtain ⟨g1, l1, u1, m1, n1, q1, r1, f1, f2, f3, f4, j1, j2, j3, j4⟩ := fa_less (show 0 ≤ le by omega) (show le ≤ mo by omega) e1
      rw [e1, r1] at B1
      rw [g1, q1] at B2
      have K1 := fun w => inside_true l1 u1 m1 n1 f1 f2 f3 f4 j1 j2 ⟨j3, j4⟩ w
      by_cases e2 : wiE t zs mo = 0
      · obtain ⟨g2, l2, u2, m2, n2, q2, r2, f1, f2, f3, f4, j1, j2, j3, j4⟩ := wi_less (show 0 ≤ le by omega) (show le ≤ mo by omega) e2
        rw [e2, r2] at C1
        rw [g2, q2] at C2
        have K2 := fun w => inside_true l2 u2 m2 n2 f1 f2 f3 f4 j1 j2 ⟨j3, j4⟩ w
        exact noise_011 a n c zs t p le mo w hR hl h0 h1 _ _ _ _ _ _ _ _ _ _ _ _ _ _ _ _ _ _ _ _ _ _ _ _ _ _ 0 0 0 0 A1 A2 K0 B1 B2 K1 C1 C2 K2
      · have K2 := ne_of_zero e2
        exact noise_010 a n c zs t p le mo w hR hl h0 h1 _ _ _ _ _ _ _ _ _ _ _ _ _ _ _ _ _ _ _ _ _ _ _ _ _ _ 0 0 _ _ A1 A2 K0 B1 B2 K1 C1 C2 K2
    · have K1 := ne_of_zero e1
      by_cases e2 : wiE t zs mo = 0
      · obtain ⟨g2, l2, u2, m2, n2, q2, r2, f1, f2, f3, f4, j1, j2, j3, j4⟩ := wi_less (show 0 ≤ le by omega) (show le ≤ mo by omega) e2
        rw [e2, r2] at C1
        rw [g2, q2] at C2
        have K2 := fun w => inside_true l2 u2 m2 n2 f1 f2 f3 f4 j1 j2 ⟨j3, j4⟩ w
        exact noise_001 a n c zs t p le mo w hR hl h0 h1 _ _ _ _ _ _ _ _ _ _ _ _ _ _ _ _ _ _ _ _ _ _ _ _ _ _ _ _ 0 0 A1 A2 K0 B1 B2 K1 C1 C2 K2
      · have K2 := ne_of_zero e2
        exact noise_000 a n c zs t p le mo w hR hl h0 h1 _ _ _ _ _ _ _ _ _ _ _ _ _ _ _ _ _ _ _ _ _ _ _ _ _ _ _ _ _ _ A1 A2 K0 B1 B2 K1 C1 C2 K2
end Go.Proofs.Ytbcgebobfnclnaa
