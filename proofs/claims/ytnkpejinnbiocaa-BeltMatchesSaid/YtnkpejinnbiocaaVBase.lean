/-
  Layer 9: ranges, valid belts, windows, by the code.
-/
import Derived.Test.YtnkpejinnbiocaaJRow
import Derived.Test.YtnkpejinnbiocaaVMath
namespace Go.Proofs.Ytnkpejinnbiocaa
open Go.RowKit
set_option linter.unusedVariables false
set_option linter.unusedSimpArgs false

set_option maxHeartbeats 400000 in
theorem vwithin_yes (n lo hi : Int) (h1 : lo ≤ n) (h2 : n ≤ hi) (w : World) :
    Calls Try.prog 39 #[.int .i64 n, .int .i64 lo, .int .i64 hi] w fun e w' => e = .returned (.bool true) ∧ w = w' := by
  go_enter Try.func39, Try.ntmps39
  go_wp2
  go_ret
  exact ⟨rfl, rfl⟩
set_option maxHeartbeats 400000 in
theorem vwithin_no (n lo hi : Int) (h : ¬ (lo ≤ n ∧ n ≤ hi)) (w : World) :
    Calls Try.prog 39 #[.int .i64 n, .int .i64 lo, .int .i64 hi] w fun e w' => e = .returned (.bool false) ∧ w = w' := by
  by_cases h1 : lo ≤ n
  · have hd : decide (n ≤ hi) = false := by simp; omega
    clear h
    go_enter Try.func39, Try.ntmps39
    go_wp2
    go_ret
    exact ⟨by first | rfl | simp, rfl⟩
  · clear h
    go_enter Try.func39, Try.ntmps39
    go_wp2
    go_ret
    exact ⟨by first | rfl | simp, rfl⟩
theorem vwithin_any (n lo hi : Int) (w : World) :
    Calls Try.prog 39 #[.int .i64 n, .int .i64 lo, .int .i64 hi] w fun e w' => e = .returned (.bool (decide (lo ≤ n ∧ n ≤ hi))) ∧ w = w' := by
  by_cases h : lo ≤ n ∧ n ≤ hi
  · rw [decide_eq_true h]; exact vwithin_yes n lo hi h.1 h.2 w
  · rw [decide_eq_false h]; exact vwithin_no n lo hi h w
set_option maxHeartbeats 400000 in
theorem isPlace_any (n : Int) (w : World) :
    Calls Try.prog 56 #[.int .i64 n] w fun e w' => e = .returned (.bool (decide (1 ≤ n ∧ n ≤ 1000000))) ∧ w = w' := by
  have HC := Lib.hid (vwithin_any n 1 1000000)
  obtain ⟨b, hb⟩ : ∃ b, decide (1 ≤ n ∧ n ≤ 1000000) = b := ⟨_, rfl⟩
  rw [hb] at HC ⊢
  clear hb
  go_enter Try.func56, Try.ntmps56
  go_wp2_with (go_at_call 39; ((with_reducible refine (HC.out _).mono ?_); rintro e w1 ⟨rfl, rfl⟩))
  go_ret
  exact ⟨rfl, rfl⟩
set_option maxHeartbeats 400000 in
theorem isCount_any (n : Int) (w : World) :
    Calls Try.prog 38 #[.int .i64 n] w fun e w' => e = .returned (.bool (decide (0 ≤ n ∧ n ≤ 1099511627776))) ∧ w = w' := by
  have HC := Lib.hid (vwithin_any n 0 1099511627776)
  obtain ⟨b, hb⟩ : ∃ b, decide (0 ≤ n ∧ n ≤ 1099511627776) = b := ⟨_, rfl⟩
  rw [hb] at HC ⊢
  clear hb
  go_enter Try.func38, Try.ntmps38
  go_wp2_with (go_at_call 39; ((with_reducible refine (HC.out _).mono ?_); rintro e w1 ⟨rfl, rfl⟩))
  go_ret
  exact ⟨rfl, rfl⟩

set_option maxHeartbeats 2000000 in
theorem ckB_walk (s p g l : Int) (b1 b2 b3 b4 : Bool) (hs : b1 = true → 1 ≤ s ∧ s ≤ 1000) (w : World)
    (H1 : Hid (∀ w, Calls Try.prog 39 #[.int .i64 s, .int .i64 1, .int .i64 1000] w fun e w' => e = .returned (.bool b1) ∧ w = w'))
    (H2 : Hid (∀ w, Calls Try.prog 39 #[.int .i64 p, .int .i64 0, .int .i64 (s - 1)] w fun e w' => e = .returned (.bool b2) ∧ w = w'))
    (H3 : Hid (∀ w, Calls Try.prog 56 #[.int .i64 g] w fun e w' => e = .returned (.bool b3) ∧ w = w'))
    (H4 : Hid (∀ w, Calls Try.prog 56 #[.int .i64 l] w fun e w' => e = .returned (.bool b4) ∧ w = w')) :
    Calls Try.prog 30 #[.agg #[.int .i64 s, .int .i64 p, .int .i64 g, .int .i64 l]] w fun e w' => e = .returned (.int .i64 (if (b1 && b2 && b3 && b4) = true then 0 else 90)) ∧ Below w.heap.size w w' := by
  cases b1 with
  | false =>
    clear hs
    go_enter Try.func30, Try.ntmps30
    go_wp2_with (go_at_call 39; ((with_reducible refine (H1.out _).mono ?_); rintro e w1 ⟨rfl, rfl⟩))
    go_ret
    exact ⟨rfl, by (repeat' (first | (with_reducible exact Below.refl _ _) | (with_reducible assumption) | (with_reducible refine belowThru ?_ (by assumption)) | (with_reducible refine belowAlloc ?_) | (with_reducible refine Below.setCell ?_ (by first | omega | (simp; done) | (simp; omega)) _) | (with_reducible refine Below.drew ?_) | (with_reducible refine below_drewN ?_ _)))⟩
  | true =>
    obtain ⟨hs1, hs2⟩ := hs rfl
    clear hs
    cases b2
    all_goals cases b3
    all_goals cases b4
    all_goals
      go_enter Try.func30, Try.ntmps30
      go_wp2_with (first
        | (go_at_call 39; ((with_reducible refine (H1.out _).mono ?_); rintro e w1 ⟨rfl, rfl⟩))
        | (go_at_call 39; ((with_reducible refine (H2.out _).mono ?_); rintro e w1 ⟨rfl, rfl⟩))
        | (go_at_call 56; ((with_reducible refine (H3.out _).mono ?_); rintro e w1 ⟨rfl, rfl⟩))
        | (go_at_call 56; ((with_reducible refine (H4.out _).mono ?_); rintro e w1 ⟨rfl, rfl⟩)))
      go_ret
      exact ⟨rfl, by (repeat' (first | (with_reducible exact Below.refl _ _) | (with_reducible assumption) | (with_reducible refine belowThru ?_ (by assumption)) | (with_reducible refine belowAlloc ?_) | (with_reducible refine Below.setCell ?_ (by first | omega | (simp; done) | (simp; omega)) _) | (with_reducible refine Below.drew ?_) | (with_reducible refine below_drewN ?_ _)))⟩
/-- 0, or the error of a belt that is not valid. -/
def ckB (s p g l : Int) : Int := if okB s p g l then 0 else 90
theorem ckB_any (s p g l : Int) (w : World) :
    Calls Try.prog 30 #[.agg #[.int .i64 s, .int .i64 p, .int .i64 g, .int .i64 l]] w fun e w' => e = .returned (.int .i64 (ckB s p g l)) ∧ Below w.heap.size w w' := by
  have h := ckB_walk s p g l _ _ _ _ (fun h => of_decide_eq_true h) w (vwithin_any s 1 1000) (vwithin_any p 0 (s - 1)) (isPlace_any g) (isPlace_any l)
  have e : (if (decide (1 ≤ s ∧ s ≤ 1000) && decide (0 ≤ p ∧ p ≤ s - 1) && decide (1 ≤ g ∧ g ≤ 1000000) && decide (1 ≤ l ∧ l ≤ 1000000)) = true then (0 : Int) else 90) = ckB s p g l := by
    unfold ckB okB
    congr 1
    simp [and_assoc]
  rwa [e] at h

set_option maxHeartbeats 2000000 in
theorem moves_any (s p g l : Int) (hs : 1 ≤ s ∧ s ≤ 1000) (hp : 0 ≤ p ∧ p ≤ s - 1) (w : World) :
    Calls Try.prog 57 #[.agg #[.int .i64 s, .int .i64 p, .int .i64 g, .int .i64 l]] w fun e w' => e = .returned (.tuple #[.int .i64 (s - p), .int .i64 (s + p)]) ∧ Below w.heap.size w w' := by
  obtain ⟨h1, h2⟩ := hs
  obtain ⟨h3, h4⟩ := hp
  have e1 : IntKind.i64.wrap (s - p) = s - p := IntWalk.i64_in _ (by omega)
  have e2 : IntKind.i64.wrap (s + p) = s + p := IntWalk.i64_in _ (by omega)
  go_enter Try.func57, Try.ntmps57
  go_wp2_with fail
  go_quiet (fail)
  go_wp2
  go_ret2
  exact ⟨by simp_all, by (repeat' (first | (with_reducible exact Below.refl _ _) | (with_reducible assumption) | (with_reducible refine belowThru ?_ (by assumption)) | (with_reducible refine belowAlloc ?_) | (with_reducible refine Below.setCell ?_ (by first | omega | (simp; done) | (simp; omega)) _) | (with_reducible refine Below.drew ?_) | (with_reducible refine below_drewN ?_ _)))⟩
end Go.Proofs.Ytnkpejinnbiocaa
