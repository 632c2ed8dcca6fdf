/-
  The document's own answers, layer 1: numbers of two words.
-/
import Derived.Test.YtcafmmhjlecgpaaWide
import Derived.Test.YtcafmmhjlecgpaaDiv
import Derived.Test.YtcafmmhjlecgpaaRMath
namespace Go.Proofs.Ytcafmmhjlecgpaa
open Go.RowKit

set_option maxHeartbeats 400000 in
theorem rtimes_any (x y : Int) (hx0 : 0 ≤ x) (hx : x ≤ 9223372036854775808) (hy0 : 0 ≤ y) (hy : y ≤ 9223372036854775808) (w : World) :
    Calls Try.prog 115 #[.int .u64 x, .int .u64 y] w fun e w' => e = .returned (.agg #[.int .u64 (whi (x * y)), .int .u64 (wlo (x * y))]) ∧ Below w.heap.size w w' := by
  have HM := Lib.hid (mul64_mag x y _ hx0 hx hy0 hy rfl)
  clear hx0 hx hy0 hy
  go_enter Try.func115, Try.ntmps115
  go_wp2_with (go_at_call 121; (with_reducible refine (HM.out _).mono ?_); rintro e w1 ⟨rfl, rfl⟩)
  exact bodyPost_ret (v := .agg #[.int .u64 (whi (x * y)), .int .u64 (wlo (x * y))]) (by simp only [results, Try.results115]; go_simp) rfl ⟨rfl, by (repeat' (first | (with_reducible exact Below.refl _ _) | (with_reducible assumption) | (with_reducible refine belowThru ?_ (by assumption)) | (with_reducible refine belowAlloc ?_) | (with_reducible refine Below.setCell ?_ (by first | omega | (simp; done) | (simp; omega)) _) | (with_reducible refine Below.drew ?_) | (with_reducible refine below_drewN ?_ _)))⟩

set_option maxHeartbeats 400000 in
theorem rplus_any (a b : Int) (w : World) :
    Calls Try.prog 132 #[.agg #[.int .u64 (whi a), .int .u64 (wlo a)], .agg #[.int .u64 (whi b), .int .u64 (wlo b)]] w fun e w' => e = .returned (.agg #[.int .u64 (whi (a + b)), .int .u64 (wlo (a + b))]) ∧ Below w.heap.size w w' := by
  have e1 : IntKind.u64.wrap (IntKind.u64.wrap (whi a + whi b) + car a b) = whi (a + b) := by rw [IntKind.wrap_u64, IntKind.wrap_u64, whi_add]; omega
  go_enter Try.func132, Try.ntmps132
  go_wp2_with (first | simp only [add64_lo] | simp only [add64_hi])
  exact bodyPost_ret (v := .agg #[.int .u64 (whi (a + b)), .int .u64 (wlo (a + b))]) (by simp only [results, Try.results132]; go_simp) rfl ⟨rfl, by (repeat' (first | (with_reducible exact Below.refl _ _) | (with_reducible assumption) | (with_reducible refine belowThru ?_ (by assumption)) | (with_reducible refine belowAlloc ?_) | (with_reducible refine Below.setCell ?_ (by first | omega | (simp; done) | (simp; omega)) _) | (with_reducible refine Below.drew ?_) | (with_reducible refine below_drewN ?_ _)))⟩

set_option maxHeartbeats 400000 in
theorem rminus_any (a b : Int) (w : World) :
    Calls Try.prog 134 #[.agg #[.int .u64 (whi a), .int .u64 (wlo a)], .agg #[.int .u64 (whi b), .int .u64 (wlo b)]] w fun e w' => e = .returned (.agg #[.int .u64 (whi (a - b)), .int .u64 (wlo (a - b))]) ∧ Below w.heap.size w w' := by
  have e1 : IntKind.u64.wrap (IntKind.u64.wrap (whi a - whi b) - bor a b) = whi (a - b) := by rw [IntKind.wrap_u64, IntKind.wrap_u64, whi_sub]; omega
  go_enter Try.func134, Try.ntmps134
  go_wp2_with (first | simp only [sub64_lo] | simp only [sub64_hi])
  exact bodyPost_ret (v := .agg #[.int .u64 (whi (a - b)), .int .u64 (wlo (a - b))]) (by simp only [results, Try.results134]; go_simp) rfl ⟨rfl, by (repeat' (first | (with_reducible exact Below.refl _ _) | (with_reducible assumption) | (with_reducible refine belowThru ?_ (by assumption)) | (with_reducible refine belowAlloc ?_) | (with_reducible refine Below.setCell ?_ (by first | omega | (simp; done) | (simp; omega)) _) | (with_reducible refine Below.drew ?_) | (with_reducible refine below_drewN ?_ _)))⟩

set_option maxHeartbeats 400000 in
theorem rless_any (a b : Int) (a0 : 0 ≤ a) (a1 : a < 340282366920938463463374607431768211456) (b0 : 0 ≤ b) (b1 : b < 340282366920938463463374607431768211456) (w : World) :
    Calls Try.prog 116 #[.agg #[.int .u64 (whi a), .int .u64 (wlo a)], .agg #[.int .u64 (whi b), .int .u64 (wlo b)]] w fun e w' => e = .returned (.bool (decide (a < b))) ∧ Below w.heap.size w w' := by
  have h := less_iff a b a0 a1 b0 b1
  clear a0 a1 b0 b1
  by_cases c1 : whi a < whi b
  · rw [decide_eq_true (h.1 (.inl c1))]
    clear h
    go_enter Try.func116, Try.ntmps116
    go_wp2
    go_ret
    exact ⟨rfl, by (repeat' (first | (with_reducible exact Below.refl _ _) | (with_reducible assumption) | (with_reducible refine belowThru ?_ (by assumption)) | (with_reducible refine belowAlloc ?_) | (with_reducible refine Below.setCell ?_ (by first | omega | (simp; done) | (simp; omega)) _) | (with_reducible refine Below.drew ?_) | (with_reducible refine below_drewN ?_ _)))⟩
  · by_cases c2 : whi a = whi b
    · have c3 : (whi a == whi b) = true := by simpa using c2
      by_cases c4 : wlo a < wlo b
      · rw [decide_eq_true (h.1 (.inr ⟨c2, c4⟩))]
        clear h c2
        go_enter Try.func116, Try.ntmps116
        go_wp2
        go_ret
        exact ⟨rfl, by (repeat' (first | (with_reducible exact Below.refl _ _) | (with_reducible assumption) | (with_reducible refine belowThru ?_ (by assumption)) | (with_reducible refine belowAlloc ?_) | (with_reducible refine Below.setCell ?_ (by first | omega | (simp; done) | (simp; omega)) _) | (with_reducible refine Below.drew ?_) | (with_reducible refine below_drewN ?_ _)))⟩
      · rw [decide_eq_false (fun k => (h.2 k).elim c1 (fun k => c4 k.2))]
        clear h c2
        go_enter Try.func116, Try.ntmps116
        go_wp2
        go_ret
        exact ⟨rfl, by (repeat' (first | (with_reducible exact Below.refl _ _) | (with_reducible assumption) | (with_reducible refine belowThru ?_ (by assumption)) | (with_reducible refine belowAlloc ?_) | (with_reducible refine Below.setCell ?_ (by first | omega | (simp; done) | (simp; omega)) _) | (with_reducible refine Below.drew ?_) | (with_reducible refine below_drewN ?_ _)))⟩
    · have c3 : (whi a == whi b) = false := by simpa using c2
      rw [decide_eq_false (fun k => (h.2 k).elim c1 (fun k => c2 k.1))]
      clear h c2
      go_enter Try.func116, Try.ntmps116
      go_wp2
      go_ret
      exact ⟨rfl, by (repeat' (first | (with_reducible exact Below.refl _ _) | (with_reducible assumption) | (with_reducible refine belowThru ?_ (by assumption)) | (with_reducible refine belowAlloc ?_) | (with_reducible refine Below.setCell ?_ (by first | omega | (simp; done) | (simp; omega)) _) | (with_reducible refine Below.drew ?_) | (with_reducible refine below_drewN ?_ _)))⟩

set_option maxHeartbeats 400000 in
theorem rsize_any (n : Int) (h1 : -9223372036854775808 ≤ n) (h2 : n ≤ 9223372036854775807) (w : World) :
    Calls Try.prog 113 #[.int .i64 n] w fun e w' => e = .returned (.int .u64 (mag n)) ∧ w = w' := by
  rcases (show n < 0 ∨ 0 ≤ n by omega) with h | h
  · go_enter Try.func113, Try.ntmps113
    go_wp2
    go_ret
    refine ⟨?_, rfl⟩
    rw [mag_neg n h, IntKind.wrap_u64, IntKind.wrap_u64, show (-(n % 18446744073709551616)) % 18446744073709551616 = -n by omega]
    rfl
  · go_enter Try.func113, Try.ntmps113
    go_wp2
    go_ret
    refine ⟨?_, rfl⟩
    rw [mag_pos n h]
    rfl

set_option maxHeartbeats 400000 in
theorem rbit_any (a : Int) (k : Nat) (hk : k < 128) (a0 : 0 ≤ a) (a1 : a < 340282366920938463463374607431768211456) (w : World) :
    Calls Try.prog 133 #[.agg #[.int .u64 (whi a), .int .u64 (wlo a)], .int .i64 k] w fun e w' => e = .returned (.int .u64 (a / 2 ^ k % 2)) ∧ Below w.heap.size w w' := by
  by_cases h : 64 ≤ k
  · obtain ⟨j, rfl⟩ : ∃ j, k = j + 64 := ⟨k - 64, by omega⟩
    have e1 := bit_hi a j a0 a1
    have d0 := Int.ediv_nonneg (whi_lo a) (Int.le_of_lt (Int.pow_pos (show (0 : Int) < 2 by decide) : (0 : Int) < 2 ^ j))
    have d1 : whi a / 2 ^ j ≤ 18446744073709551615 := Int.le_trans (Int.ediv_le_self _ (whi_lo a)) (whi_hi a)
    have e2 := and_one_u64 (whi a / 2 ^ j) d0 d1
    have e3 : IntKind.i64.wrap (((j + 64 : Nat) : Int) - 64) = (j : Int) := by rw [IntWalk.i64_in _ (by omega)]; omega
    have e4 : ((j : Int)).toNat = j := by omega
    rw [← e1, ← e2]
    have c1 : (64 : Int) ≤ ((j + 64 : Nat) : Int) := by omega
    have c2 : ¬ (j : Int) < 0 := by omega
    clear e1 e2 a0 a1
    go_enter Try.func133, Try.ntmps133
    go_wp2
    go_ret
    exact ⟨rfl, by (repeat' (first | (with_reducible exact Below.refl _ _) | (with_reducible assumption) | (with_reducible refine belowThru ?_ (by assumption)) | (with_reducible refine belowAlloc ?_) | (with_reducible refine Below.setCell ?_ (by first | omega | (simp; done) | (simp; omega)) _) | (with_reducible refine Below.drew ?_) | (with_reducible refine below_drewN ?_ _)))⟩
  · have e1 := bit_lo a k (by omega)
    have d0 := Int.ediv_nonneg (wlo_lo a) (Int.le_of_lt (Int.pow_pos (show (0 : Int) < 2 by decide) : (0 : Int) < 2 ^ k))
    have d1 : wlo a / 2 ^ k ≤ 18446744073709551615 := Int.le_trans (Int.ediv_le_self _ (wlo_lo a)) (wlo_hi a)
    have e2 := and_one_u64 (wlo a / 2 ^ k) d0 d1
    have e4 : ((k : Int)).toNat = k := by omega
    rw [← e1, ← e2]
    have c1 : ¬ (64 : Int) ≤ (k : Int) := by omega
    have c2 : ¬ (k : Int) < 0 := by omega
    clear e1 e2 a0 a1
    go_enter Try.func133, Try.ntmps133
    go_wp2
    go_ret
    exact ⟨rfl, by (repeat' (first | (with_reducible exact Below.refl _ _) | (with_reducible assumption) | (with_reducible refine belowThru ?_ (by assumption)) | (with_reducible refine belowAlloc ?_) | (with_reducible refine Below.setCell ?_ (by first | omega | (simp; done) | (simp; omega)) _) | (with_reducible refine Below.drew ?_) | (with_reducible refine below_drewN ?_ _)))⟩
end Go.Proofs.Ytcafmmhjlecgpaa
