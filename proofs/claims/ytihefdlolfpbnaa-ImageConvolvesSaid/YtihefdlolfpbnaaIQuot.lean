/-
  Layer 2: quotients, rounded down; sources of a warp; whether a place is a pixel.
-/
import Derived.Test.YtihefdlolfpbnaaIPlace
import Derived.StillTailTactics
namespace Go.Proofs.Ytihefdlolfpbnaa
open Go.RowKit
set_option linter.unusedVariables false
set_option linter.unusedSimpArgs false

theorem ediv_unique {d q r q' r' : Int} (h : d * q + r = d * q' + r') (h0 : 0 ≤ r) (h1 : r < d) (h2 : 0 ≤ r') (h3 : r' < d) : q = q' := by
  have e : d * (q - q') = r' - r := by rw [Int.mul_sub]; omega
  rcases Int.lt_trichotomy (q - q') 0 with k | k | k
  · have := Int.mul_le_mul_of_nonneg_left (show q - q' ≤ -1 by omega) (show 0 ≤ d by omega)
    omega
  · omega
  · have := Int.mul_le_mul_of_nonneg_left (show 1 ≤ q - q' by omega) (show 0 ≤ d by omega)
    omega
/-- A quotient that is rounded down, out of the machine's own. -/
theorem floor_of (n d : Int) (hd : 1 ≤ d) : (n.tmod d < 0 → n / d = n.tdiv d - 1) ∧ (¬ n.tmod d < 0 → n / d = n.tdiv d) := by
  have h1 := Int.mul_tdiv_add_tmod n d
  have h2 := Int.mul_ediv_add_emod n d
  have h3 := Int.emod_nonneg n (show d ≠ 0 by omega)
  have h4 := Int.emod_lt_of_pos n (show 0 < d by omega)
  have h5 : n.tmod d < d ∧ -d < n.tmod d := by
    have e : n.tmod d = -((-n).tmod d) := by rw [Int.neg_tmod, Int.neg_neg]
    have q1 := Int.tmod_lt_of_pos n (show 0 < d by omega)
    have q2 := Int.tmod_lt_of_pos (-n) (show 0 < d by omega)
    omega
  constructor
  · intro h
    have e : n / d = (n.tdiv d - 1) := by
      have : d * (n / d) + n % d = d * (n.tdiv d - 1) + (n.tmod d + d) := by rw [h2, Int.mul_sub, Int.mul_one]; omega
      exact ediv_unique this h3 h4 (by omega) (by omega)
    exact e
  · intro h
    have : d * (n / d) + n % d = d * (n.tdiv d) + n.tmod d := by rw [h2, h1]
    exact ediv_unique this h3 h4 (by omega) (by omega)
theorem tdiv_in (n d : Int) (hd : 1 ≤ d) (m : Int) (h1 : -m ≤ n) (h2 : n ≤ m) : -m ≤ n.tdiv d ∧ n.tdiv d ≤ m := by
  have h0 := Int.natAbs_tdiv n d
  have h3 : (n.tdiv d).natAbs ≤ n.natAbs := by rw [h0]; exact Nat.div_le_self _ _
  omega
set_option maxHeartbeats 1000000 in
theorem quotient_any (n d : Int) (hd : 1 ≤ d) (h1 : -1152921504606846976 ≤ n) (h2 : n ≤ 1152921504606846976) (h3 : d ≤ 1152921504606846976) (w : World) :
    Calls Try.prog 57 #[.int .i64 n, .int .i64 d] w fun e w' => e = .returned (.int .i64 (n / d)) ∧ w = w' := by
  have f1 := (floor_of n d hd).1
  have f2 := (floor_of n d hd).2
  have hb := tdiv_in n d hd _ h1 h2
  have hw : IntKind.i64.wrap (n.tdiv d) = n.tdiv d := IntWalk.i64_in _ (by omega)
  have hz : ¬ d = 0 := by omega
  by_cases hm : n.tmod d < 0
  · have f := f1 hm
    have F := Lib.hid f
    clear f f1 f2
    go_enter Try.func57, Try.ntmps57
    go_wp2
    go_ret
    exact ⟨ret_int F.out.symm, rfl⟩
  · have f := f2 hm
    have F := Lib.hid f
    clear f f1 f2
    go_enter Try.func57, Try.ntmps57
    go_wp2
    go_ret
    exact ⟨ret_int F.out.symm, rfl⟩
/-- A number over another and one half, rounded down. -/
def rnd (n d : Int) : Int := (2 * n + d) / (2 * d)
set_option maxHeartbeats 1000000 in
theorem rounded_any (n d : Int) (hd : 1 ≤ d) (h1 : -1099511627776 ≤ n) (h2 : n ≤ 1099511627776) (h3 : d ≤ 1099511627776) (w : World) :
    Calls Try.prog 115 #[.int .i64 n, .int .i64 d] w fun e w' => e = .returned (.int .i64 (rnd n d)) ∧ w = w' := by
  have HQ := Lib.hid (quotient_any (2 * n + d) (2 * d) (by omega) (by omega) (by omega) (by omega))
  unfold rnd
  go_enter Try.func115, Try.ntmps115
  go_wp2_with (go_at_call 57; (with_reducible refine (HQ.out _).mono ?_); rintro e w1 ⟨rfl, rfl⟩)
  go_ret
  exact ⟨rfl, rfl⟩
/-- A pair of numbers is a pixel. -/
def inP (W H x y : Int) : Prop := (0 ≤ x ∧ x < W) ∧ (0 ≤ y ∧ y < H)
instance (W H x y : Int) : Decidable (inP W H x y) := inferInstanceAs (Decidable (_ ∧ _))
set_option maxHeartbeats 1000000 in
theorem has_any (W H x y : Int) (a : Option Addr) (n c : Nat) (w : World) :
    Calls Try.prog 84 #[.agg #[.int .i64 W, .int .i64 H, .slice a n c], .agg #[.int .i64 x, .int .i64 y]] w fun e w' => e = .returned (.bool (decide (inP W H x y))) ∧ Below w.heap.size w w' := by
  by_cases h : inP W H x y
  · rw [decide_eq_true h]
    obtain ⟨⟨h1, h2⟩, h3, h4⟩ := h
    go_enter Try.func84, Try.ntmps84
    go_wp2
    go_ret
    exact ⟨rfl, by (repeat' (first | (with_reducible exact Below.refl _ _) | (with_reducible assumption) | (with_reducible refine belowThru ?_ (by assumption)) | (with_reducible refine belowAlloc ?_) | (with_reducible refine Below.setCell ?_ (by first | omega | (simp; done) | (simp; omega)) _) | (with_reducible refine Below.drew ?_) | (with_reducible refine below_drewN ?_ _)))⟩
  · rw [decide_eq_false h]
    by_cases h1 : 0 ≤ x
    · by_cases h2 : x < W
      · by_cases h3 : 0 ≤ y
        · have h4 : ¬ y < H := fun h4 => h ⟨⟨h1, h2⟩, h3, h4⟩
          clear h
          go_enter Try.func84, Try.ntmps84
          go_wp2
          go_ret
          exact ⟨rfl, by (repeat' (first | (with_reducible exact Below.refl _ _) | (with_reducible assumption) | (with_reducible refine belowThru ?_ (by assumption)) | (with_reducible refine belowAlloc ?_) | (with_reducible refine Below.setCell ?_ (by first | omega | (simp; done) | (simp; omega)) _) | (with_reducible refine Below.drew ?_) | (with_reducible refine below_drewN ?_ _)))⟩
        · clear h
          go_enter Try.func84, Try.ntmps84
          go_wp2
          go_ret
          exact ⟨rfl, by (repeat' (first | (with_reducible exact Below.refl _ _) | (with_reducible assumption) | (with_reducible refine belowThru ?_ (by assumption)) | (with_reducible refine belowAlloc ?_) | (with_reducible refine Below.setCell ?_ (by first | omega | (simp; done) | (simp; omega)) _) | (with_reducible refine Below.drew ?_) | (with_reducible refine below_drewN ?_ _)))⟩
      · clear h
        go_enter Try.func84, Try.ntmps84
        go_wp2
        go_ret
        exact ⟨rfl, by (repeat' (first | (with_reducible exact Below.refl _ _) | (with_reducible assumption) | (with_reducible refine belowThru ?_ (by assumption)) | (with_reducible refine belowAlloc ?_) | (with_reducible refine Below.setCell ?_ (by first | omega | (simp; done) | (simp; omega)) _) | (with_reducible refine Below.drew ?_) | (with_reducible refine below_drewN ?_ _)))⟩
    · clear h
      go_enter Try.func84, Try.ntmps84
      go_wp2
      go_ret
      exact ⟨rfl, by (repeat' (first | (with_reducible exact Below.refl _ _) | (with_reducible assumption) | (with_reducible refine belowThru ?_ (by assumption)) | (with_reducible refine belowAlloc ?_) | (with_reducible refine Below.setCell ?_ (by first | omega | (simp; done) | (simp; omega)) _) | (with_reducible refine Below.drew ?_) | (with_reducible refine below_drewN ?_ _)))⟩
end Go.Proofs.Ytihefdlolfpbnaa
