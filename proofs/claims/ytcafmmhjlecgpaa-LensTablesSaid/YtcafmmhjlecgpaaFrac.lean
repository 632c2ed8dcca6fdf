/-
  Layer 1: parts of fractions, greatest common divisors, valid fractions.
-/
import Derived.Test.YtcafmmhjlecgpaaParts
namespace Go.Proofs.Ytcafmmhjlecgpaa
open Go.RowKit

set_option maxHeartbeats 1000000 in
theorem part_ok0 (z : Int) (w : World) (h0 : 0 ≤ z) (h1 : z ≤ 4611686018427387903) :
    Calls Try.prog 123 #[.agg #[.int .u64 (whi z), .int .u64 (wlo z)]] w fun e w' => e = .returned (.tuple #[.int .i64 z, .bool true]) ∧ Below w.heap.size w w' := by
  have zs : ¬ z.sign < 0 := by intro h; have := Int.sign_neg_iff.1 h; omega
  have e1 := whi_of z h0 (by omega)
  have e2 := wlo_of z h0 (by omega)
  have HS : Hid (∀ w, Calls Try.prog 104 #[.agg #[.int .u64 0, .int .u64 z]] w fun e w' => e = .returned (.int .i64 z.sign) ∧ Below w.heap.size w w') := by
    intro w; have := sign_any z (by omega) (by omega) w; rw [e1, e2] at this; exact this
  rw [e1, e2]
  clear e1 e2
  go_enter Try.func123, Try.ntmps123
  go_wp2_with (go_at_call 104; (with_reducible refine (HS.out _).mono ?_); rintro e w1 ⟨rfl, hb⟩; obtain ⟨hc, hf⟩ := bcell hb; (try simp only [World.heap_drewN] at hc hf); (try simp only [heap_drew] at hc hf); have hz := hb.size; (try simp at hz); try (have hz0 : w.heap.size < w1.heap.size := by omega); try (have hz1 : w.heap.size + 1 < w1.heap.size := by omega); try (have hz2 : w.heap.size + 1 + 1 < w1.heap.size := by omega); try (have hz3 : w.heap.size + 1 + 1 + 1 < w1.heap.size := by omega); try (have hz4 : w.heap.size + 1 + 1 + 1 + 1 < w1.heap.size := by omega); try (have hz5 : w.heap.size + 1 + 1 + 1 + 1 + 1 < w1.heap.size := by omega))
  go_ret2
  exact ⟨rfl, by (repeat' (first | (with_reducible exact Below.refl _ _) | (with_reducible assumption) | (with_reducible refine belowThru ?_ (by assumption)) | (with_reducible refine belowAlloc ?_) | (with_reducible refine Below.setCell ?_ (by first | omega | (simp; done) | (simp; omega)) _) | (with_reducible refine Below.drew ?_) | (with_reducible refine below_drewN ?_ _)))⟩

set_option maxHeartbeats 1000000 in
theorem part_neg (z m r : Int) (b : Bool) (w : World) (h0 : z < 0) (h1 : -170141183460469231731687303715884105728 < z) (em : Hid (-z = m))
    (hm : Hid (∀ w, Calls Try.prog 123 #[.agg #[.int .u64 (whi m), .int .u64 (wlo m)]] w fun e w' => e = .returned (.tuple #[.int .i64 r, .bool b]) ∧ Below w.heap.size w w')) (r0 : 0 ≤ r) (r1 : r ≤ 4611686018427387903) :
    Calls Try.prog 123 #[.agg #[.int .u64 (whi z), .int .u64 (wlo z)]] w fun e w' => e = .returned (.tuple #[.int .i64 (-r), .bool b]) ∧ Below w.heap.size w w' := by
  have zs : z.sign < 0 := Int.sign_neg_iff.2 h0
  have HO : Hid (∀ w, Calls Try.prog 107 #[.agg #[.int .u64 (whi z), .int .u64 (wlo z)]] w fun e w' => e = .returned (.agg #[.int .u64 (whi m), .int .u64 (wlo m)]) ∧ Below w.heap.size w w') := by
    intro w; have := opposite_any z w; rw [em.out] at this; exact this
  go_enter Try.func123, Try.ntmps123
  go_wp2_with (first
    | (go_at_call 104; (with_reducible refine (sign_any z (by omega) (by omega) _).mono ?_); rintro e w1 ⟨rfl, hb⟩; obtain ⟨hc, hf⟩ := bcell hb; (try simp only [World.heap_drewN] at hc hf); (try simp only [heap_drew] at hc hf); have hz := hb.size; (try simp at hz); try (have hz0 : w.heap.size < w1.heap.size := by omega); try (have hz1 : w.heap.size + 1 < w1.heap.size := by omega); try (have hz2 : w.heap.size + 1 + 1 < w1.heap.size := by omega); try (have hz3 : w.heap.size + 1 + 1 + 1 < w1.heap.size := by omega); try (have hz4 : w.heap.size + 1 + 1 + 1 + 1 < w1.heap.size := by omega); try (have hz5 : w.heap.size + 1 + 1 + 1 + 1 + 1 < w1.heap.size := by omega))
    | (go_at_call 107; (with_reducible refine (HO.out _).mono ?_); rintro e w1 ⟨rfl, hb⟩; obtain ⟨hc, hf⟩ := bcell hb; (try simp only [World.heap_drewN] at hc hf); (try simp only [heap_drew] at hc hf); have hz := hb.size; (try simp at hz); try (have hz0 : w.heap.size < w1.heap.size := by omega); try (have hz1 : w.heap.size + 1 < w1.heap.size := by omega); try (have hz2 : w.heap.size + 1 + 1 < w1.heap.size := by omega); try (have hz3 : w.heap.size + 1 + 1 + 1 < w1.heap.size := by omega); try (have hz4 : w.heap.size + 1 + 1 + 1 + 1 < w1.heap.size := by omega); try (have hz5 : w.heap.size + 1 + 1 + 1 + 1 + 1 < w1.heap.size := by omega))
    | (go_at_call 123; (with_reducible refine (hm.out _).mono ?_); rintro e w1 ⟨rfl, hb⟩; obtain ⟨hc, hf⟩ := bcell hb; (try simp only [World.heap_drewN] at hc hf); (try simp only [heap_drew] at hc hf); have hz := hb.size; (try simp at hz); try (have hz0 : w.heap.size < w1.heap.size := by omega); try (have hz1 : w.heap.size + 1 < w1.heap.size := by omega); try (have hz2 : w.heap.size + 1 + 1 < w1.heap.size := by omega); try (have hz3 : w.heap.size + 1 + 1 + 1 < w1.heap.size := by omega); try (have hz4 : w.heap.size + 1 + 1 + 1 + 1 < w1.heap.size := by omega); try (have hz5 : w.heap.size + 1 + 1 + 1 + 1 + 1 < w1.heap.size := by omega)))
  go_ret2
  exact ⟨rfl, by (repeat' (first | (with_reducible exact Below.refl _ _) | (with_reducible assumption) | (with_reducible refine belowThru ?_ (by assumption)) | (with_reducible refine belowAlloc ?_) | (with_reducible refine Below.setCell ?_ (by first | omega | (simp; done) | (simp; omega)) _) | (with_reducible refine Below.drew ?_) | (with_reducible refine below_drewN ?_ _)))⟩

set_option maxHeartbeats 1000000 in
theorem part_no0 (z : Int) (w : World) (h0 : 4611686018427387903 < z) (h1 : z < 170141183460469231731687303715884105728) :
    Calls Try.prog 123 #[.agg #[.int .u64 (whi z), .int .u64 (wlo z)]] w fun e w' => e = .returned (.tuple #[.int .i64 0, .bool false]) ∧ Below w.heap.size w w' := by
  have zs : ¬ z.sign < 0 := by intro h; have := Int.sign_neg_iff.1 h; omega
  have hz := pos_whi z (by omega) h1
  have b0 := wlo_lo z; have b1 := wlo_hi z; have a0 := whi_lo z
  by_cases h : whi z = 0
  · have hl : 4611686018427387903 < wlo z := by omega
    have hd : (whi z != 0) = false := by simpa using h
    clear hz h
    go_enter Try.func123, Try.ntmps123
    go_wp2_with (go_at_call 104; (with_reducible refine (sign_any z (by omega) (by omega) _).mono ?_); rintro e w1 ⟨rfl, hb⟩; obtain ⟨hc, hf⟩ := bcell hb; (try simp only [World.heap_drewN] at hc hf); (try simp only [heap_drew] at hc hf); have hz := hb.size; (try simp at hz); try (have hz0 : w.heap.size < w1.heap.size := by omega); try (have hz1 : w.heap.size + 1 < w1.heap.size := by omega); try (have hz2 : w.heap.size + 1 + 1 < w1.heap.size := by omega); try (have hz3 : w.heap.size + 1 + 1 + 1 < w1.heap.size := by omega); try (have hz4 : w.heap.size + 1 + 1 + 1 + 1 < w1.heap.size := by omega); try (have hz5 : w.heap.size + 1 + 1 + 1 + 1 + 1 < w1.heap.size := by omega))
    go_ret2
    exact ⟨rfl, by (repeat' (first | (with_reducible exact Below.refl _ _) | (with_reducible assumption) | (with_reducible refine belowThru ?_ (by assumption)) | (with_reducible refine belowAlloc ?_) | (with_reducible refine Below.setCell ?_ (by first | omega | (simp; done) | (simp; omega)) _) | (with_reducible refine Below.drew ?_) | (with_reducible refine below_drewN ?_ _)))⟩
  · have hd : (whi z != 0) = true := by simpa using h
    clear hz h
    go_enter Try.func123, Try.ntmps123
    go_wp2_with (go_at_call 104; (with_reducible refine (sign_any z (by omega) (by omega) _).mono ?_); rintro e w1 ⟨rfl, hb⟩; obtain ⟨hc, hf⟩ := bcell hb; (try simp only [World.heap_drewN] at hc hf); (try simp only [heap_drew] at hc hf); have hz := hb.size; (try simp at hz); try (have hz0 : w.heap.size < w1.heap.size := by omega); try (have hz1 : w.heap.size + 1 < w1.heap.size := by omega); try (have hz2 : w.heap.size + 1 + 1 < w1.heap.size := by omega); try (have hz3 : w.heap.size + 1 + 1 + 1 < w1.heap.size := by omega); try (have hz4 : w.heap.size + 1 + 1 + 1 + 1 < w1.heap.size := by omega); try (have hz5 : w.heap.size + 1 + 1 + 1 + 1 + 1 < w1.heap.size := by omega))
    go_ret2
    exact ⟨rfl, by (repeat' (first | (with_reducible exact Below.refl _ _) | (with_reducible assumption) | (with_reducible refine belowThru ?_ (by assumption)) | (with_reducible refine belowAlloc ?_) | (with_reducible refine Below.setCell ?_ (by first | omega | (simp; done) | (simp; omega)) _) | (with_reducible refine Below.drew ?_) | (with_reducible refine below_drewN ?_ _)))⟩

theorem part_ok (z : Int) (w : World) (h0 : -4611686018427387903 ≤ z) (h1 : z ≤ 4611686018427387903) :
    Calls Try.prog 123 #[.agg #[.int .u64 (whi z), .int .u64 (wlo z)]] w fun e w' => e = .returned (.tuple #[.int .i64 z, .bool true]) ∧ Below w.heap.size w w' := by
  rcases (show z < 0 ∨ 0 ≤ z by omega) with h | h
  · have := part_neg z (-z) (-z) true w h (by omega) rfl (fun w => part_ok0 (-z) w (by omega) (by omega)) (by omega) (by omega)
    rw [Int.neg_neg] at this; exact this
  · exact part_ok0 z w h h1
theorem part_no (z : Int) (w : World) (h : z < -4611686018427387903 ∨ 4611686018427387903 < z) (h0 : -170141183460469231731687303715884105728 < z) (h1 : z < 170141183460469231731687303715884105728) :
    Calls Try.prog 123 #[.agg #[.int .u64 (whi z), .int .u64 (wlo z)]] w fun e w' => e = .returned (.tuple #[.int .i64 0, .bool false]) ∧ Below w.heap.size w w' := by
  rcases h with h | h
  · exact part_neg z (-z) 0 false w (by omega) h0 rfl (fun w => part_no0 (-z) w (by omega) (by omega)) (by omega) (by omega)
  · exact part_no0 z w h h1

set_option maxHeartbeats 1000000 in
theorem divisor_any (x y : Int) (hx0 : 0 ≤ x) (hx1 : x ≤ 18446744073709551615) (hy0 : 0 ≤ y) (hy1 : y ≤ 18446744073709551615) (w : World) :
    Calls Try.prog 105 #[.int .u64 x, .int .u64 y] w fun e w' => e = .returned (.int .u64 (gcdI x y)) ∧ ∃ n, w' = w.drewN n := by
  go_enter Try.func105, Try.ntmps105
  go_wp2
  go_loopw [0, 1] (fun p q wr => ∃ a b : Int, p = .int .u64 a ∧ q = .int .u64 b ∧ 0 ≤ a ∧ a ≤ 18446744073709551615 ∧ 0 ≤ b ∧ b ≤ 18446744073709551615 ∧ Hid (gcdI a b = gcdI x y) ∧ ∃ n, wr = w.drewN n) (fun _ q _ => (intOf q).toNat)
  case atStart => exact ⟨x, y, rfl, rfl, hx0, hx1, hy0, hy1, rfl, 0, rfl⟩
  case round =>
    obtain ⟨a, b, rfl, rfl, a0, a1, b0, b1, hg, n, rfl⟩ := hrel
    by_cases hb : b = 0
    · subst hb
      go_wp2
      go_ret
      have := hg.out
      rw [gcdI_zero a a0] at this
      exact ⟨by rw [← this]; rfl, n, rfl⟩
    · have hd : (b != 0) = true := by simpa using hb
      have hp : 1 ≤ b := by omega
      have m0 : 0 ≤ a % b := Int.emod_nonneg _ (by omega)
      have m1 : a % b < b := Int.emod_lt_of_pos _ (by omega)
      clear hb
      go_wp2
      go_quiet (fail)
      go_wp2
      go_roundw
      case rel => exact ⟨b, a % b, rfl, rfl, b0, b1, m0, by omega, by show _ = _; rw [gcdI_step a b a0 (by omega)]; exact hg.out, n + nq, by rw [World.drewN_drewN]⟩
      case measure => simp [intOf]; omega
end Go.Proofs.Ytcafmmhjlecgpaa
