/-
  Layer 1: the calls on fractions, for any fractions.
-/
import Derived.Test.YtcafmmhjlecgpaaArith
import Derived.Test.YtcafmmhjlecgpaaCheck
namespace Go.Proofs.Ytcafmmhjlecgpaa
open Go.RowKit

theorem ck2_ok {q r : Rat} (hq : fits q) (hr : fits r) : ck2 (fn q) (fd q) (fn r) (fd r) = 0 := (if_pos (okF_q hq)).trans (ck_ok (okF_q hr))
theorem ck2_no {a b c d : Int} (h : ¬ (okF a b ∧ okF c d)) : ck2 a b c d = 8 := by
  unfold ck2
  by_cases k : okF a b
  · rw [if_pos k]; exact ck_no (fun x => h ⟨k, x⟩)
  · exact if_neg k

theorem make_q (n d : Int) (w : World) (n1 : -9223372036854775808 ≤ n) (n2 : n ≤ 9223372036854775807) (d1 : -9223372036854775808 ≤ d) (d2 : d ≤ 9223372036854775807) (d0 : d ≠ 0) :
    Calls Try.prog 83 #[.int .i64 n, .int .i64 d] w fun e w' => e = .returned (.tuple #[.agg #[.int .i64 (rn (mkR n d)), .int .i64 (rd (mkR n d))], .int .i64 (re (mkR n d))]) ∧ Below w.heap.size w w' := by
  obtain ⟨g, hg⟩ : ∃ g, g = gcdI (n.natAbs : Int) (d.natAbs : Int) := ⟨_, rfl⟩
  obtain ⟨p1, p2⟩ := mkR_parts n d g d0 hg
  have m0 := mag_lo n; have m1 := mag_le n n1 n2; have m2 := mag_lo d; have m3 := mag_le d d1 d2
  rw [← mag_natAbs, ← mag_natAbs] at hg
  rw [← mag_natAbs] at p1 p2
  have mp : 0 < mag d := by rw [mag_natAbs]; omega
  have g1 : 0 < g := by rw [hg]; exact gcdI_pos_right _ _ mp
  have g2 : g ≤ mag d := by rw [hg]; exact gcdI_le_right _ _ mp
  have bx0 := Int.ediv_nonneg m0 (show 0 ≤ g by omega)
  have bx1 := Int.ediv_le_self g m0
  have by0 := Int.ediv_nonneg m2 (show 0 ≤ g by omega)
  have by1 := Int.ediv_le_self g m2
  have ht : (if (!(decide (n < 0) == decide (d < 0))) = true then -(mag n / g) else mag n / g) = fn (mkR n d) := by
    rw [p1]
    rcases Int.lt_trichotomy n 0 with hn | hn | hn <;> rcases Int.lt_trichotomy d 0 with hd | hd | hd
    · rw [Int.sign_eq_neg_one_of_neg hn, Int.sign_eq_neg_one_of_neg hd, decide_eq_true hn, decide_eq_true hd]; simp
    · exact absurd hd d0
    · rw [Int.sign_eq_neg_one_of_neg hn, Int.sign_eq_one_of_pos hd, decide_eq_true hn, decide_eq_false (by omega)]; simp
    · subst hn; rw [show mag 0 = 0 from rfl]; simp
    · exact absurd hd d0
    · subst hn; rw [show mag 0 = 0 from rfl]; simp
    · rw [Int.sign_eq_one_of_pos hn, Int.sign_eq_neg_one_of_neg hd, decide_eq_false (by omega), decide_eq_true hd]; simp
    · exact absurd hd d0
    · rw [Int.sign_eq_one_of_pos hn, Int.sign_eq_one_of_pos hd, decide_eq_false (by omega), decide_eq_false (by omega)]; simp
  refine make_walk n d g (mag n / g) (mag d / g) _ _ _ _ w n1 n2 d1 d2 (by simpa using d0) ?_ (by omega) (by omega) ?_ ?_ bx0 (by omega) by0 (by omega) rfl ?_
  · intro w
    refine (divisor_any (mag n) (mag d) (by omega) (by omega) (by omega) (by omega) w).mono fun e w' ⟨he, k, hw⟩ => ⟨by rw [he, hg], by rw [hw]; exact below_drewN (Below.refl _ _) k⟩
  · rw [Int.tdiv_eq_ediv_of_nonneg m0, IntKind.wrap_u64]; omega
  · rw [Int.tdiv_eq_ediv_of_nonneg m2, IntKind.wrap_u64]; omega
  · intro w
    have := fraction_q (mkR n d) _ (mag d / g) ht p2.symm w (by split <;> omega) (by split <;> omega) (by omega)
    rw [whi_of (mag d / g) by0 (by omega), wlo_of (mag d / g) by0 (by omega)] at this
    exact this

set_option maxHeartbeats 1000000 in
theorem make_zero (n : Int) (w : World) :
    Calls Try.prog 83 #[.int .i64 n, .int .i64 0] w fun e w' => e = .returned (.tuple #[.agg #[.int .i64 0, .int .i64 0], .int .i64 10]) ∧ Below w.heap.size w w' := by
  go_enter Try.func83, Try.ntmps83
  go_wp2
  exact bodyPost_ret (v := .tuple #[.agg #[.int .i64 0, .int .i64 0], .int .i64 10]) (by simp only [results, Try.results83]; go_simp) rfl ⟨rfl, by (repeat' (first | (with_reducible exact Below.refl _ _) | (with_reducible assumption) | (with_reducible refine belowThru ?_ (by assumption)) | (with_reducible refine belowAlloc ?_) | (with_reducible refine Below.setCell ?_ (by first | omega | (simp; done) | (simp; omega)) _) | (with_reducible refine Below.drew ?_) | (with_reducible refine below_drewN ?_ _)))⟩

set_option maxHeartbeats 1000000 in
theorem compare_q (q r : Rat) (hq : fits q) (hr : fits r) (w : World) :
    Calls Try.prog 32 #[.agg #[.int .i64 (fn q), .int .i64 (fd q)], .agg #[.int .i64 (fn r), .int .i64 (fd r)]] w fun e w' => e = .returned (.tuple #[.int .i64 (ordQ q r), .int .i64 0]) ∧ Below w.heap.size w w' := by
  have HC := Lib.hid (order_q q r hq hr)
  have hd : (ck2 (fn q) (fd q) (fn r) (fd r) != 0) = false := by rw [ck2_ok hq hr]; rfl
  clear hq hr
  go_enter Try.func32, Try.ntmps32
  go_wp2_with (first
    | (go_at_call 73; (with_reducible refine (checkAll_two (fn q) (fd q) (fn r) (fd r) _ _ (by simp [go_sem]) (by simp [go_sem]) (by simp [go_sem]) (by simp [go_sem])).mono ?_); rintro e w1 ⟨rfl, hb⟩; obtain ⟨hc, hf⟩ := bcell hb; (try simp only [World.heap_drewN] at hc hf); (try simp only [heap_drew] at hc hf); have hz := hb.size; (try simp at hz); try (have hz0 : w.heap.size < w1.heap.size := by omega); try (have hz1 : w.heap.size + 1 < w1.heap.size := by omega); try (have hz2 : w.heap.size + 1 + 1 < w1.heap.size := by omega); try (have hz3 : w.heap.size + 1 + 1 + 1 < w1.heap.size := by omega); try (have hz4 : w.heap.size + 1 + 1 + 1 + 1 < w1.heap.size := by omega); try (have hz5 : w.heap.size + 1 + 1 + 1 + 1 + 1 < w1.heap.size := by omega))
    | (go_at_call 74; (with_reducible refine (HC.out _).mono ?_); rintro e w1 ⟨rfl, hb⟩; obtain ⟨hc, hf⟩ := bcell hb; (try simp only [World.heap_drewN] at hc hf); (try simp only [heap_drew] at hc hf); have hz := hb.size; (try simp at hz); try (have hz0 : w.heap.size < w1.heap.size := by omega); try (have hz1 : w.heap.size + 1 < w1.heap.size := by omega); try (have hz2 : w.heap.size + 1 + 1 < w1.heap.size := by omega); try (have hz3 : w.heap.size + 1 + 1 + 1 < w1.heap.size := by omega); try (have hz4 : w.heap.size + 1 + 1 + 1 + 1 < w1.heap.size := by omega); try (have hz5 : w.heap.size + 1 + 1 + 1 + 1 + 1 < w1.heap.size := by omega)))
  go_ret2
  exact ⟨rfl, by (repeat' (first | (with_reducible exact Below.refl _ _) | (with_reducible assumption) | (with_reducible refine belowThru ?_ (by assumption)) | (with_reducible refine belowAlloc ?_) | (with_reducible refine Below.setCell ?_ (by first | omega | (simp; done) | (simp; omega)) _) | (with_reducible refine Below.drew ?_) | (with_reducible refine below_drewN ?_ _)))⟩

set_option maxHeartbeats 1000000 in
theorem compare_bad (a b c d : Int) (h : ¬ (okF a b ∧ okF c d)) (w : World) :
    Calls Try.prog 32 #[.agg #[.int .i64 a, .int .i64 b], .agg #[.int .i64 c, .int .i64 d]] w fun e w' => e = .returned (.tuple #[.int .i64 0, .int .i64 8]) ∧ Below w.heap.size w w' := by
  have he : ck2 a b c d = 8 := ck2_no h
  have HC : Hid (∀ B (w : World), w.cell? ⟨B, 0, none⟩ = some (.int .i64 a) → w.cell? ⟨B, 1, none⟩ = some (.int .i64 b) → w.cell? ⟨B, 2, none⟩ = some (.int .i64 c) → w.cell? ⟨B, 3, none⟩ = some (.int .i64 d) →
      Calls Try.prog 73 #[.slice (some ⟨B, 0, none⟩) 2 2] w fun e w' => e = .returned (.int .i64 8) ∧ Below w.heap.size w w') := by
    intro B w h0 h1 h2 h3; have := checkAll_two a b c d B w h0 h1 h2 h3; rw [he] at this; exact this
  clear he h
  go_enter Try.func32, Try.ntmps32
  go_wp2_with (go_at_call 73; (with_reducible refine (HC.out _ _ (by simp [go_sem]) (by simp [go_sem]) (by simp [go_sem]) (by simp [go_sem])).mono ?_); rintro e w1 ⟨rfl, hb⟩; obtain ⟨hc, hf⟩ := bcell hb; (try simp only [World.heap_drewN] at hc hf); (try simp only [heap_drew] at hc hf); have hz := hb.size; (try simp at hz); try (have hz0 : w.heap.size < w1.heap.size := by omega); try (have hz1 : w.heap.size + 1 < w1.heap.size := by omega); try (have hz2 : w.heap.size + 1 + 1 < w1.heap.size := by omega); try (have hz3 : w.heap.size + 1 + 1 + 1 < w1.heap.size := by omega); try (have hz4 : w.heap.size + 1 + 1 + 1 + 1 < w1.heap.size := by omega); try (have hz5 : w.heap.size + 1 + 1 + 1 + 1 + 1 < w1.heap.size := by omega))
  go_ret2
  exact ⟨rfl, by (repeat' (first | (with_reducible exact Below.refl _ _) | (with_reducible assumption) | (with_reducible refine belowThru ?_ (by assumption)) | (with_reducible refine belowAlloc ?_) | (with_reducible refine Below.setCell ?_ (by first | omega | (simp; done) | (simp; omega)) _) | (with_reducible refine Below.drew ?_) | (with_reducible refine below_drewN ?_ _)))⟩
end Go.Proofs.Ytcafmmhjlecgpaa
