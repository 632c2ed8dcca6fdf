/-
  Layer 1: sums and differences of valid fractions as rational numbers; products.
-/
import Derived.Test.YtcafmmhjlecgpaaOps
namespace Go.Proofs.Ytcafmmhjlecgpaa
open Go.RowKit

theorem tdiv_bound (t s M : Int) (h : -M < t ∧ t < M) : -M < t.tdiv s ∧ t.tdiv s < M := by
  have h1 : (t.tdiv s).natAbs ≤ t.natAbs := by
    rw [Int.natAbs_tdiv]; exact Nat.div_le_self _ _
  omega

/-- The numbers on the way to a sum or a difference. -/
theorem way_bounds (q r : Rat) (hq : fits q) (hr : fits r) (g l m : Int) (hg : g = gcdI (fd q) (fd r)) (hl : l = fd q / g) (hm : m = fd r / g) :
    1 ≤ g ∧ g ≤ 4611686018427387903 ∧ 1 ≤ l ∧ l ≤ 4611686018427387903 ∧ 1 ≤ m ∧ m ≤ 4611686018427387903 ∧
    (-21267647932558653957237540927630737409 ≤ fn q * m ∧ fn q * m ≤ 21267647932558653957237540927630737409) ∧ (-21267647932558653957237540927630737409 ≤ fn r * l ∧ fn r * l ≤ 21267647932558653957237540927630737409) ∧
    ∀ t s : Int, s = gcdI g ((t.natAbs : Int) % g) → 1 ≤ s ∧ s ≤ 4611686018427387903 ∧ 1 ≤ fd r / s ∧ fd r / s ≤ 4611686018427387903 ∧ l * (fd r / s) ≤ 21267647932558653957237540927630737409 := by
  have fq := hq; have fr' := hr; unfold fits at fq fr'; obtain ⟨q1, q2, q3⟩ := fq; obtain ⟨r1, r2, r3⟩ := fr'; have q4 := fd_pos q; have r4 := fd_pos r
  have g1 : 0 < g := by rw [hg]; exact gcdI_pos_left _ _ (by omega)
  have g2 : g ≤ fd q := by rw [hg]; exact gcdI_le_left _ _ (by omega)
  have g3 : g ≤ fd r := by rw [hg]; exact gcdI_le_right _ _ (by omega)
  have bl := div_bounds (fd q) g (by omega) g1 g2
  have bm := div_bounds (fd r) g (by omega) g1 g3
  rw [← hl] at bl
  rw [← hm] at bm
  refine ⟨by omega, by omega, by omega, by omega, by omega, by omega, ?_, ?_, ?_⟩
  · have := mul_bound (fn q) m 4611686018427387903 4611686018427387903 ⟨q1, q2⟩ ⟨by omega, by omega⟩ (by omega) (by omega); omega
  · have := mul_bound (fn r) l 4611686018427387903 4611686018427387903 ⟨r1, r2⟩ ⟨by omega, by omega⟩ (by omega) (by omega); omega
  · intro t s hs
    have s1 : 0 < s := by rw [hs]; exact gcdI_pos_left _ _ g1
    have s2 : s ≤ g := by rw [hs]; exact gcdI_le_left _ _ g1
    have bk := div_bounds (fd r) s (by omega) s1 (by omega)
    have := mul_bound l (fd r / s) 4611686018427387903 4611686018427387903 ⟨by omega, by omega⟩ ⟨by omega, by omega⟩ (by omega) (by omega)
    exact ⟨by omega, by omega, by omega, by omega, by omega⟩

theorem minus_enters : ∀ args w, (callFunc 103 args).run Try.prog w = .ok (.enter 103 args) w := Go.Proofs.enters_of Try.func103 (by kernel_rfl) rfl

theorem combine_minus (q r : Rat) (hq : fits q) (hr : fits r) (w : World) :
    Calls Try.prog 124 #[.agg #[.int .i64 (fn q), .int .i64 (fd q)], .agg #[.int .i64 (fn r), .int .i64 (fd r)], .func (.func 103) #[] #[]] w fun e w' => e = .returned (.tuple #[.agg #[.int .i64 (rn (q - r)), .int .i64 (rd (q - r))], .int .i64 (re (q - r))]) ∧ Below w.heap.size w w' := by
  have fq := hq; have fr' := hr; unfold fits at fq fr'
  have q4 := fd_pos q; have r4 := fd_pos r
  obtain ⟨g, hg⟩ : ∃ g, g = gcdI (fd q) (fd r) := ⟨_, rfl⟩
  obtain ⟨l, hl⟩ : ∃ l, l = fd q / g := ⟨_, rfl⟩
  obtain ⟨m, hm⟩ : ∃ m, m = fd r / g := ⟨_, rfl⟩
  obtain ⟨t, ht⟩ : ∃ t, t = fn q * m - fn r * l := ⟨_, rfl⟩
  obtain ⟨s, hs⟩ : ∃ s, s = gcdI g ((t.natAbs : Int) % g) := ⟨_, rfl⟩
  obtain ⟨b1, b2, b3, b4, b5, b6, b7, b8, b9⟩ := way_bounds q r hq hr g l m hg hl hm
  obtain ⟨c1, c2, c3, c4, c5⟩ := b9 t s hs
  obtain ⟨p1, p2⟩ := sub_parts q r g l t s hg hl (by rw [ht, hm]) hs
  have d1 := tdiv_bound t s 170141183460469231731687303715884105728 ⟨by omega, by omega⟩
  have m0 : 0 ≤ (t.natAbs : Int) % g := Int.emod_nonneg _ (by omega)
  have m1 : (t.natAbs : Int) % g < g := Int.emod_lt_of_pos _ (by omega)
  refine combine_walk q r hq hr 103 g l m t s (fd r / s) _ _ _ w ?_ b1 b2 hl.symm hm.symm b3 b4 b5 b6 rfl c3 c4 ?_ minus_enters (by omega) (by omega) c1 c2 ?_ ?_
  · intro w; rw [hg]; exact divisor_any _ _ (by omega) (by omega) (by omega) (by omega) w
  · intro w; exact fraction_q (q - r) _ _ p1 p2 w d1.1 d1.2 (by omega)
  · intro w
    refine (divisor_any g ((t.natAbs : Int) % g) (by omega) (by omega) (by omega) (by omega) w).mono fun e w' ⟨he, n, hw⟩ => ⟨by rw [he, hs], by rw [hw]; exact below_drewN (Below.refl _ _) n⟩
  · intro w; rw [ht]; exact minus_any _ _ w
end Go.Proofs.Ytcafmmhjlecgpaa
