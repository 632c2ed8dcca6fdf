/-
  Layer 1: quotients of wide numbers, their parts, greatest common divisors.
-/
import Derived.Test.YtcafmmhjlecgpaaWide
import Derived.Test.YtcafmmhjlecgpaaDiv
import Derived.Test.YtcafmmhjlecgpaaQMath
import Derived.Deep.RegionHeld3
namespace Go.Proofs.Ytcafmmhjlecgpaa
open Go.RowKit

set_option maxHeartbeats 1000000 in
theorem divide_pos (z d Q R : Int) (w : World) (h0 : 0 ≤ z) (h1 : z < 170141183460469231731687303715884105728) (hd : 1 ≤ d) (hd1 : d ≤ 18446744073709551615) (eQ : Hid (z / d = Q)) (eR : Hid (z % d = R)) :
    Calls Try.prog 131 #[.agg #[.int .u64 (whi z), .int .u64 (wlo z)], .int .u64 d] w fun e w' => e = .returned (.tuple #[.agg #[.int .u64 (whi Q), .int .u64 (wlo Q)], .int .u64 R]) ∧ Below w.heap.size w w' := by
  obtain ⟨p1, p2, p3, p4, p5⟩ := div_parts z d h0 h1 hd hd1
  have a0 := whi_lo z; have a1 := whi_hi z; have b0 := wlo_lo z; have b1 := wlo_hi z
  have zs : ¬ z.sign < 0 := by
    intro h; have := Int.sign_neg_iff.1 h; omega
  rw [eQ.out] at p1 p2
  rw [eR.out] at p3
  have HD : Hid (∀ w, Calls Try.prog 135 #[.int .u64 (whi z % d), .int .u64 (wlo z), .int .u64 d] w fun e w' => e = .returned (.tuple #[.int .u64 (wlo Q), .int .u64 R]) ∧ Below w.heap.size w w') := by
    intro w
    rw [p2, p3]
    exact div64_any (whi z % d) (wlo z) d p4 p5 b0 b1 hd1 w
  have HQ : Hid (whi Q = whi z / d) := p1
  clear p1 p2 p3
  go_enter Try.func131, Try.ntmps131
  go_wp2_with (go_at_call 104; refine (sign_any z (by omega) h1 _).mono ?_; rintro e w1 ⟨rfl, hb⟩; obtain ⟨hc, hf⟩ := bcell hb; (try simp only [World.heap_drewN] at hc hf); (try simp only [heap_drew] at hc hf); have hz := hb.size; (try simp at hz); try (have hz0 : w.heap.size < w1.heap.size := by omega); try (have hz1 : w.heap.size + 1 < w1.heap.size := by omega); try (have hz2 : w.heap.size + 1 + 1 < w1.heap.size := by omega); try (have hz3 : w.heap.size + 1 + 1 + 1 < w1.heap.size := by omega); try (have hz4 : w.heap.size + 1 + 1 + 1 + 1 < w1.heap.size := by omega); try (have hz5 : w.heap.size + 1 + 1 + 1 + 1 + 1 < w1.heap.size := by omega))
  go_quiet (fail)
  go_wp2_with (go_at_call 135; refine (HD.out _).mono ?_; rintro e w1 ⟨rfl, hb⟩; obtain ⟨hc, hf⟩ := bcell hb; (try simp only [World.heap_drewN] at hc hf); (try simp only [heap_drew] at hc hf); have hz := hb.size; (try simp at hz); try (have hz0 : w.heap.size < w1.heap.size := by omega); try (have hz1 : w.heap.size + 1 < w1.heap.size := by omega); try (have hz2 : w.heap.size + 1 + 1 < w1.heap.size := by omega); try (have hz3 : w.heap.size + 1 + 1 + 1 < w1.heap.size := by omega); try (have hz4 : w.heap.size + 1 + 1 + 1 + 1 < w1.heap.size := by omega); try (have hz5 : w.heap.size + 1 + 1 + 1 + 1 + 1 < w1.heap.size := by omega))
  exact bodyPost_ret (v := .tuple #[.agg #[.int .u64 (whi Q), .int .u64 (wlo Q)], .int .u64 R]) (by rw [HQ.out]; simp only [results, Try.results131]; go_simp) rfl ⟨rfl, by (repeat' (first | (with_reducible exact Below.refl _ _) | (with_reducible assumption) | (with_reducible refine belowThru ?_ (by assumption)) | (with_reducible refine belowAlloc ?_) | (with_reducible refine Below.setCell ?_ (by first | omega | (simp; done) | (simp; omega)) _) | (with_reducible refine Below.drew ?_) | (with_reducible refine below_drewN ?_ _)))⟩

set_option maxHeartbeats 1000000 in
theorem divide_neg (z d Q R : Int) (w : World) (h0 : z < 0) (h1 : -170141183460469231731687303715884105728 < z) (hd : 1 ≤ d) (hd1 : d ≤ 18446744073709551615) (eQ : Hid (-((-z) / d) = Q)) (eR : Hid ((-z) % d = R)) :
    Calls Try.prog 131 #[.agg #[.int .u64 (whi z), .int .u64 (wlo z)], .int .u64 d] w fun e w' => e = .returned (.tuple #[.agg #[.int .u64 (whi Q), .int .u64 (wlo Q)], .int .u64 R]) ∧ Below w.heap.size w w' := by
  have zs : z.sign < 0 := Int.sign_neg_iff.2 h0
  have HD : Hid (∀ w, Calls Try.prog 131 #[.agg #[.int .u64 (whi (-z)), .int .u64 (wlo (-z))], .int .u64 d] w fun e w' => e = .returned (.tuple #[.agg #[.int .u64 (whi ((-z) / d)), .int .u64 (wlo ((-z) / d))], .int .u64 R]) ∧ Below w.heap.size w w') := by
    intro w
    exact divide_pos (-z) d _ R w (by omega) (by omega) hd hd1 rfl eR
  generalize (-z) / d = U at *
  have HO : Hid (∀ w, Calls Try.prog 107 #[.agg #[.int .u64 (whi U), .int .u64 (wlo U)]] w fun e w' => e = .returned (.agg #[.int .u64 (whi Q), .int .u64 (wlo Q)]) ∧ Below w.heap.size w w') := by
    intro w; have := opposite_any U w; rw [eQ.out] at this; exact this
  go_enter Try.func131, Try.ntmps131
  go_wp2_with (first
    | (go_at_call 104; refine (sign_any z (by omega) (by omega) _).mono ?_; rintro e w1 ⟨rfl, hb⟩; obtain ⟨hc, hf⟩ := bcell hb; (try simp only [World.heap_drewN] at hc hf); (try simp only [heap_drew] at hc hf); have hz := hb.size; (try simp at hz); try (have hz0 : w.heap.size < w1.heap.size := by omega); try (have hz1 : w.heap.size + 1 < w1.heap.size := by omega); try (have hz2 : w.heap.size + 1 + 1 < w1.heap.size := by omega); try (have hz3 : w.heap.size + 1 + 1 + 1 < w1.heap.size := by omega); try (have hz4 : w.heap.size + 1 + 1 + 1 + 1 < w1.heap.size := by omega); try (have hz5 : w.heap.size + 1 + 1 + 1 + 1 + 1 < w1.heap.size := by omega))
    | (go_at_call 131; refine (HD.out _).mono ?_; rintro e w1 ⟨rfl, hb⟩; obtain ⟨hc, hf⟩ := bcell hb; (try simp only [World.heap_drewN] at hc hf); (try simp only [heap_drew] at hc hf); have hz := hb.size; (try simp at hz); try (have hz0 : w.heap.size < w1.heap.size := by omega); try (have hz1 : w.heap.size + 1 < w1.heap.size := by omega); try (have hz2 : w.heap.size + 1 + 1 < w1.heap.size := by omega); try (have hz3 : w.heap.size + 1 + 1 + 1 < w1.heap.size := by omega); try (have hz4 : w.heap.size + 1 + 1 + 1 + 1 < w1.heap.size := by omega); try (have hz5 : w.heap.size + 1 + 1 + 1 + 1 + 1 < w1.heap.size := by omega))
    | (go_at_call 107; (with_reducible refine (opposite_any z _).mono ?_); rintro e w1 ⟨rfl, hb⟩; obtain ⟨hc, hf⟩ := bcell hb; (try simp only [World.heap_drewN] at hc hf); (try simp only [heap_drew] at hc hf); have hz := hb.size; (try simp at hz); try (have hz0 : w.heap.size < w1.heap.size := by omega); try (have hz1 : w.heap.size + 1 < w1.heap.size := by omega); try (have hz2 : w.heap.size + 1 + 1 < w1.heap.size := by omega); try (have hz3 : w.heap.size + 1 + 1 + 1 < w1.heap.size := by omega); try (have hz4 : w.heap.size + 1 + 1 + 1 + 1 < w1.heap.size := by omega); try (have hz5 : w.heap.size + 1 + 1 + 1 + 1 + 1 < w1.heap.size := by omega))
    | (go_at_call 107; (with_reducible refine (HO.out _).mono ?_); rintro e w1 ⟨rfl, hb⟩; obtain ⟨hc, hf⟩ := bcell hb; (try simp only [World.heap_drewN] at hc hf); (try simp only [heap_drew] at hc hf); have hz := hb.size; (try simp at hz); try (have hz0 : w.heap.size < w1.heap.size := by omega); try (have hz1 : w.heap.size + 1 < w1.heap.size := by omega); try (have hz2 : w.heap.size + 1 + 1 < w1.heap.size := by omega); try (have hz3 : w.heap.size + 1 + 1 + 1 < w1.heap.size := by omega); try (have hz4 : w.heap.size + 1 + 1 + 1 + 1 < w1.heap.size := by omega); try (have hz5 : w.heap.size + 1 + 1 + 1 + 1 + 1 < w1.heap.size := by omega)))
  exact bodyPost_ret (v := .tuple #[.agg #[.int .u64 (whi Q), .int .u64 (wlo Q)], .int .u64 R]) (by simp only [results, Try.results131]; go_simp) rfl ⟨rfl, by (repeat' (first | (with_reducible exact Below.refl _ _) | (with_reducible assumption) | (with_reducible refine belowThru ?_ (by assumption)) | (with_reducible refine belowAlloc ?_) | (with_reducible refine Below.setCell ?_ (by first | omega | (simp; done) | (simp; omega)) _) | (with_reducible refine Below.drew ?_) | (with_reducible refine below_drewN ?_ _)))⟩

/-- The quotient without its fraction, and the size of the rest. -/
theorem divide_any (z d : Int) (w : World) (h0 : -170141183460469231731687303715884105728 < z) (h1 : z < 170141183460469231731687303715884105728) (hd : 1 ≤ d) (hd1 : d ≤ 18446744073709551615) :
    Calls Try.prog 131 #[.agg #[.int .u64 (whi z), .int .u64 (wlo z)], .int .u64 d] w fun e w' => e = .returned (.tuple #[.agg #[.int .u64 (whi (z.tdiv d)), .int .u64 (wlo (z.tdiv d))], .int .u64 ((z.natAbs : Int) % d)]) ∧ Below w.heap.size w w' := by
  rcases (show z < 0 ∨ 0 ≤ z by omega) with h | h
  · exact divide_neg z d _ _ w h h0 hd hd1 (tdiv_neg z d h).symm (by show _ = _; rw [show ((z.natAbs : Int)) = -z by omega])
  · exact divide_pos z d _ _ w h h1 hd hd1 (Int.tdiv_eq_ediv_of_nonneg h).symm (by show _ = _; rw [show ((z.natAbs : Int)) = z by omega])
end Go.Proofs.Ytcafmmhjlecgpaa
