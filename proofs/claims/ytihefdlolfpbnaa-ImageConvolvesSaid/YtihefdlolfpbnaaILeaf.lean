/-
  Layer 2: ranges, quotients, places.
-/
import Derived.Test.YtihefdlolfpbnaaIBase
namespace Go.Proofs.Ytihefdlolfpbnaa
open Go.RowKit
set_option linter.unusedVariables false
set_option linter.unusedSimpArgs false

theorem ret_int {k : IntKind} {a b : Int} (h : a = b) : Ending.returned (.int k a) = .returned (.int k b) := by rw [h]
/-! ### Numbers in ranges -/
set_option maxHeartbeats 400000 in
theorem within_yes (n m : Int) (h0 : 0 ≤ m) (h1 : m ≤ 4294967296) (h : -m ≤ n ∧ n ≤ m) (w : World) :
    Calls Try.prog 99 #[.int .i64 n, .int .i64 m] w fun e w' => e = .returned (.bool true) ∧ w = w' := by
  obtain ⟨k1, k2⟩ := h
  go_enter Try.func99, Try.ntmps99
  go_wp2
  go_ret
  exact ⟨rfl, rfl⟩
set_option maxHeartbeats 400000 in
theorem within_no (n m : Int) (h0 : 0 ≤ m) (h1 : m ≤ 4294967296) (h : n < -m ∨ m < n) (w : World) :
    Calls Try.prog 99 #[.int .i64 n, .int .i64 m] w fun e w' => e = .returned (.bool false) ∧ w = w' := by
  rcases h with h | h
  · go_enter Try.func99, Try.ntmps99
    go_wp2
    go_ret
    exact ⟨rfl, rfl⟩
  · have k : -m ≤ n := by omega
    have hd : decide (n ≤ m) = false := by simp; omega
    go_enter Try.func99, Try.ntmps99
    go_wp2
    go_ret
    exact ⟨by simp, rfl⟩
/-- A number may be a value of an image. -/
def okV (n : Int) : Prop := -2147483648 ≤ n ∧ n ≤ 2147483648
instance (n : Int) : Decidable (okV n) := inferInstanceAs (Decidable (_ ∧ _))
set_option maxHeartbeats 400000 in
theorem isValue_any (n : Int) (w : World) :
    Calls Try.prog 81 #[.int .i64 n] w fun e w' => e = .returned (.bool (decide (okV n))) ∧ w = w' := by
  by_cases h : okV n
  · rw [decide_eq_true h]
    obtain ⟨h1, h2⟩ := h
    go_enter Try.func81, Try.ntmps81
    go_wp2_with (go_at_call 99; (with_reducible refine (within_yes n 2147483648 (by omega) (by omega) ⟨h1, h2⟩ _).mono ?_); rintro e w1 ⟨rfl, rfl⟩)
    go_ret
    exact ⟨rfl, rfl⟩
  · rw [decide_eq_false h]
    have h' : n < -2147483648 ∨ 2147483648 < n := by unfold okV at h; omega
    clear h
    go_enter Try.func81, Try.ntmps81
    go_wp2_with (go_at_call 99; (with_reducible refine (within_no n 2147483648 (by omega) (by omega) h' _).mono ?_); rintro e w1 ⟨rfl, rfl⟩)
    go_ret
    exact ⟨rfl, rfl⟩
/-- A number may be a side of an image. -/
def okS (n : Int) : Prop := 1 ≤ n ∧ n ≤ 16
instance (n : Int) : Decidable (okS n) := inferInstanceAs (Decidable (_ ∧ _))
set_option maxHeartbeats 400000 in
theorem isSide_any (n : Int) (w : World) :
    Calls Try.prog 80 #[.int .i64 n] w fun e w' => e = .returned (.bool (decide (okS n))) ∧ w = w' := by
  by_cases h1 : 1 ≤ n
  · by_cases h2 : n ≤ 16
    · rw [decide_eq_true (show okS n from ⟨h1, h2⟩)]
      go_enter Try.func80, Try.ntmps80
      go_wp2
      go_ret
      exact ⟨rfl, rfl⟩
    · rw [decide_eq_false (fun k : okS n => h2 k.2)]
      go_enter Try.func80, Try.ntmps80
      go_wp2
      go_ret
      exact ⟨rfl, rfl⟩
  · rw [decide_eq_false (fun k : okS n => h1 k.1)]
    go_enter Try.func80, Try.ntmps80
    go_wp2
    go_ret
    exact ⟨rfl, rfl⟩
/-- A number brought into a range. -/
def inR (n lo hi : Int) : Int := max lo (min n hi)
set_option maxHeartbeats 400000 in
theorem bring_any (n lo hi : Int) (w : World) :
    Calls Try.prog 56 #[.int .i64 n, .int .i64 lo, .int .i64 hi] w fun e w' => e = .returned (.int .i64 (inR n lo hi)) ∧ w = w' := by
  go_enter Try.func56, Try.ntmps56
  go_wp2
  all_goals
    go_ret
    exact ⟨ret_int (by unfold inR; omega), rfl⟩
end Go.Proofs.Ytihefdlolfpbnaa
