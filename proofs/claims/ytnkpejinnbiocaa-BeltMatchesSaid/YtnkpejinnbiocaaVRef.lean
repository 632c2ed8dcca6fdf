/-
  Layer 9: Reach and Clear by the code; belts and windows, by the document's own.
-/
import Derived.Test.YtnkpejinnbiocaaVWin
namespace Go.Proofs.Ytnkpejinnbiocaa
open Go.RowKit
set_option linter.unusedVariables false
set_option linter.unusedSimpArgs false

set_option maxRecDepth 100000 in
set_option maxHeartbeats 4000000 in
theorem clear_any (s p g l : Int) (w : World) :
    Calls Try.prog 27 #[.agg #[.int .i64 s, .int .i64 p, .int .i64 g, .int .i64 l]] w fun e w' => e = .returned (.tuple #[.int .i64 (clN s p g l), .int .i64 (ckB s p g l)]) ∧ Below w.heap.size w w' := by
  by_cases h : okB s p g l
  · have HC := HCk s p g l 0 (if_pos h)
    have HW := Lib.hid (windowOf_any s p g l g h h.2.2.1.1 h.2.2.1.2)
    have e1 : clN s p g l = laB s p l g - fiB s p g + 1 := if_pos h
    have e3 : ckB s p g l = 0 := if_pos h
    rw [e1, e3]
    have f1 := fiB_bd h.1.1 h.2.1.1 h.2.2.1.1
    have f2 := laB_bd (s := s) (l := l) h.2.1.2 h.2.2.1.1 (by have := h.2.2.2.1; omega)
    have f3 := fi_la h h.2.2.1.1
    have f4 := h.2.2.1.2
    have f5 := h.2.2.2.2
    clear e1 e3 h
    obtain ⟨F, hF⟩ : ∃ F, fiB s p g = F := ⟨_, rfl⟩
    obtain ⟨L, hL⟩ : ∃ L, laB s p l g = L := ⟨_, rfl⟩
    rw [hF, hL] at HW f3 ⊢
    rw [hF] at f1
    rw [hL] at f2
    have v1 : IntKind.i64.wrap (L - F) = L - F := IntWalk.i64_in _ (by omega)
    have v2 : IntKind.i64.wrap (L - F + 1) = L - F + 1 := IntWalk.i64_in _ (by omega)
    clear hF hL f1 f2 f3 f4 f5
    go_enter Try.func27, Try.ntmps27
    go_wp2_with fail
    refine (HC.out _).mono ?_
    rintro e w1 ⟨rfl, hb⟩
    have k0 : Blk w1 w.heap.size #[.int .i64 s, .int .i64 p, .int .i64 g, .int .i64 l] 23 := Blk.later hb (by (repeat' (first | (with_reducible assumption) | ((with_reducible refine Blk.new ?_); first | rfl | (simp; done)) | (with_reducible refine Blk.later (by assumption) ?_) | (with_reducible refine Blk.alloc ?_) | (with_reducible refine Blk.drewN ?_) | (with_reducible refine Blk.drew ?_) | (with_reducible refine Blk.other ?_ (by first | omega | (simp; done) | (simp; omega))))))
    have hB : Below w.heap.size w w1 := by (repeat' (first | (with_reducible exact Below.refl _ _) | (with_reducible assumption) | (with_reducible refine belowThru ?_ (by assumption)) | (with_reducible refine belowAlloc ?_) | (with_reducible refine Below.setCell ?_ (by first | omega | (simp; done) | (simp; omega)) _) | (with_reducible refine Below.drew ?_) | (with_reducible refine below_drewN ?_ _)))
    obtain ⟨a0, b0⟩ := k0.read
    have y0 := k0.lt
    clear hb
    go_wp2_with (go_at_call 34; ((with_reducible refine (HW.out _).mono ?_); rintro e w2 ⟨rfl, hb⟩))
    go_ret2
    exact ⟨by simp_all, by (repeat' (first | (with_reducible exact Below.refl _ _) | (with_reducible assumption) | (with_reducible refine belowThru ?_ (by assumption)) | (with_reducible refine belowAlloc ?_) | (with_reducible refine Below.setCell ?_ (by first | omega | (simp; done) | (simp; omega)) _) | (with_reducible refine Below.drew ?_) | (with_reducible refine below_drewN ?_ _)))⟩
  · have HC := HCk s p g l 90 (if_neg h)
    have e1 : clN s p g l = 0 := if_neg h
    have e3 : ckB s p g l = 90 := if_neg h
    rw [e1, e3]
    clear e1 e3 h
    go_enter Try.func27, Try.ntmps27
    go_wp2_with (go_at_call 30; ((with_reducible refine (HC.out _).mono ?_); rintro e w1 ⟨rfl, hb⟩))
    go_ret2
    exact ⟨rfl, by (repeat' (first | (with_reducible exact Below.refl _ _) | (with_reducible assumption) | (with_reducible refine belowThru ?_ (by assumption)) | (with_reducible refine belowAlloc ?_) | (with_reducible refine Below.setCell ?_ (by first | omega | (simp; done) | (simp; omega)) _) | (with_reducible refine Below.drew ?_) | (with_reducible refine below_drewN ?_ _)))⟩

/-! ### The document's own -/
set_option maxHeartbeats 400000 in
theorem rvwithin_any (n lo hi : Int) (w : World) :
    Calls Try.prog 41 #[.int .i64 n, .int .i64 lo, .int .i64 hi] w fun e w' => e = .returned (.bool (decide (lo ≤ n ∧ n ≤ hi))) ∧ w = w' := by
  by_cases h1 : lo ≤ n
  · by_cases h2 : n ≤ hi
    · rw [decide_eq_true ⟨h1, h2⟩]
      go_enter Try.func41, Try.ntmps41
      go_wp2
      go_ret
      exact ⟨rfl, rfl⟩
    · rw [decide_eq_false (fun k => h2 k.2)]
      have hd : decide (n ≤ hi) = false := by simp; omega
      clear h2
      go_enter Try.func41, Try.ntmps41
      go_wp2
      go_ret
      exact ⟨by first | rfl | simp, rfl⟩
  · rw [decide_eq_false (fun k => h1 k.1)]
    go_enter Try.func41, Try.ntmps41
    go_wp2
    go_ret
    exact ⟨by first | rfl | simp, rfl⟩
theorem HRw (n lo hi : Int) (b : Bool) (h : decide (lo ≤ n ∧ n ≤ hi) = b) : Hid (∀ w, Calls Try.prog 41 #[.int .i64 n, .int .i64 lo, .int .i64 hi] w fun e w' => e = .returned (.bool b) ∧ w = w') := fun w => by
  have := rvwithin_any n lo hi w
  rwa [h] at this
set_option maxHeartbeats 4000000 in
theorem rvalid_walk (s p g l : Int) (b1 b2 b3 b4 : Bool) (hs : b1 = true → 1 ≤ s ∧ s ≤ 1000) (w : World)
    (H1 : Hid (∀ w, Calls Try.prog 41 #[.int .i64 s, .int .i64 1, .int .i64 1000] w fun e w' => e = .returned (.bool b1) ∧ w = w'))
    (H2 : Hid (∀ w, Calls Try.prog 41 #[.int .i64 p, .int .i64 0, .int .i64 (s - 1)] w fun e w' => e = .returned (.bool b2) ∧ w = w'))
    (H3 : Hid (∀ w, Calls Try.prog 41 #[.int .i64 g, .int .i64 1, .int .i64 1000000] w fun e w' => e = .returned (.bool b3) ∧ w = w'))
    (H4 : Hid (∀ w, Calls Try.prog 41 #[.int .i64 l, .int .i64 1, .int .i64 1000000] w fun e w' => e = .returned (.bool b4) ∧ w = w')) :
    Calls Try.prog 31 #[.agg #[.int .i64 s, .int .i64 p, .int .i64 g, .int .i64 l]] w fun e w' => e = .returned (.bool (b1 && b2 && b3 && b4)) ∧ Below w.heap.size w w' := by
  cases b1 with
  | false =>
    clear hs
    go_enter Try.func31, Try.ntmps31
    go_wp2_with (go_at_call 41; ((with_reducible refine (H1.out _).mono ?_); rintro e w1 ⟨rfl, rfl⟩))
    go_ret
    exact ⟨rfl, by (repeat' (first | (with_reducible exact Below.refl _ _) | (with_reducible assumption) | (with_reducible refine belowThru ?_ (by assumption)) | (with_reducible refine belowAlloc ?_) | (with_reducible refine Below.setCell ?_ (by first | omega | (simp; done) | (simp; omega)) _) | (with_reducible refine Below.drew ?_) | (with_reducible refine below_drewN ?_ _)))⟩
  | true =>
    obtain ⟨hs1, hs2⟩ := hs rfl
    clear hs
    cases b2
    all_goals cases b3
    all_goals cases b4
    all_goals
      go_enter Try.func31, Try.ntmps31
      go_wp2_with (first
        | (go_at_call 41; ((with_reducible refine (H1.out _).mono ?_); rintro e w1 ⟨rfl, rfl⟩))
        | (go_at_call 41; ((with_reducible refine (H2.out _).mono ?_); rintro e w1 ⟨rfl, rfl⟩))
        | (go_at_call 41; ((with_reducible refine (H3.out _).mono ?_); rintro e w1 ⟨rfl, rfl⟩))
        | (go_at_call 41; ((with_reducible refine (H4.out _).mono ?_); rintro e w1 ⟨rfl, rfl⟩)))
      go_ret
      exact ⟨rfl, by (repeat' (first | (with_reducible exact Below.refl _ _) | (with_reducible assumption) | (with_reducible refine belowThru ?_ (by assumption)) | (with_reducible refine belowAlloc ?_) | (with_reducible refine Below.setCell ?_ (by first | omega | (simp; done) | (simp; omega)) _) | (with_reducible refine Below.drew ?_) | (with_reducible refine below_drewN ?_ _)))⟩
theorem rvalid_any (s p g l : Int) (w : World) :
    Calls Try.prog 31 #[.agg #[.int .i64 s, .int .i64 p, .int .i64 g, .int .i64 l]] w fun e w' => e = .returned (.bool (decide (okB s p g l))) ∧ Below w.heap.size w w' := by
  have h := rvalid_walk s p g l _ _ _ _ (fun h => of_decide_eq_true h) w (rvwithin_any s 1 1000) (rvwithin_any p 0 (s - 1)) (rvwithin_any g 1 1000000) (rvwithin_any l 1 1000000)
  have e : (decide (1 ≤ s ∧ s ≤ 1000) && decide (0 ≤ p ∧ p ≤ s - 1) && decide (1 ≤ g ∧ g ≤ 1000000) && decide (1 ≤ l ∧ l ≤ 1000000)) = decide (okB s p g l) := by
    unfold okB
    rw [Bool.eq_iff_iff]
    simp [and_assoc]
  rwa [e] at h
theorem HRv (s p g l : Int) (b : Bool) (h : decide (okB s p g l) = b) : Hid (∀ w, Calls Try.prog 31 #[.agg #[.int .i64 s, .int .i64 p, .int .i64 g, .int .i64 l]] w fun e w' => e = .returned (.bool b) ∧ Below w.heap.size w w') := fun w => by
  have := rvalid_any s p g l w
  rwa [h] at this
set_option maxRecDepth 100000 in
set_option maxHeartbeats 4000000 in
theorem ends_any (s p g l d : Int) (h : okB s p g l) (h1 : 1 ≤ d) (h2 : d ≤ 1000000) (w : World) :
    Calls Try.prog 37 #[.agg #[.int .i64 s, .int .i64 p, .int .i64 g, .int .i64 l], .int .i64 d] w fun e w' => e = .returned (.tuple #[.int .i64 (fiB s p d), .int .i64 (laB s p l d)]) ∧ Below w.heap.size w w' := by
  obtain ⟨⟨s1, s2⟩, ⟨p1, p2⟩, ⟨g1, g2⟩, l1, l2⟩ := h
  obtain ⟨F, hF⟩ : ∃ F, fiB s p d = F := ⟨_, rfl⟩
  obtain ⟨L, hL⟩ : ∃ L, laB s p l d = L := ⟨_, rfl⟩
  obtain ⟨a, ha⟩ : ∃ a, s - p = a := ⟨_, rfl⟩
  obtain ⟨b, hb⟩ : ∃ b, s + p = b := ⟨_, rfl⟩
  rw [hF, hL]
  have a1 : 1 ≤ a := by omega
  have b1 : 1 ≤ b := by omega
  have b2 : b ≤ 2000 := by omega
  have e0 : IntKind.i64.wrap (s - p) = a := by rw [IntWalk.i64_in _ (by omega), ha]
  have e00 : IntKind.i64.wrap (s + p) = b := by rw [IntWalk.i64_in _ (by omega), hb]
  have e1 : IntKind.i64.wrap (d + b) = d + b := IntWalk.i64_in _ (by omega)
  have e2 : IntKind.i64.wrap (d + b - 1) = d + b - 1 := IntWalk.i64_in _ (by omega)
  have e3 : IntKind.i64.wrap (d + l) = d + l := IntWalk.i64_in _ (by omega)
  have e4 : (d + b - 1).tdiv b = F := by rw [← hF, Int.tdiv_eq_ediv_of_nonneg (by omega), ← hb]; rfl
  have hq := laB_bd (s := s) (l := l) p2 h1 (by omega)
  rw [hL] at hq
  have e5 : (d + l).tdiv a = L - 1 := by rw [← hL, Int.tdiv_eq_ediv_of_nonneg (by omega), ← ha]; unfold laB; omega
  have hf := fiB_bd (d := d) s1 p1 h1
  rw [hF] at hf
  obtain ⟨hf1, hf2⟩ := hf
  obtain ⟨hq1, hq2⟩ := hq
  have e6 : IntKind.i64.wrap F = F := IntWalk.i64_in _ (by omega)
  have e7 : IntKind.i64.wrap (L - 1) = L - 1 := IntWalk.i64_in _ (by omega)
  have e8 : IntKind.i64.wrap (L - 1 + 1) = L := by rw [show L - 1 + 1 = L by omega]; exact IntWalk.i64_in _ (by omega)
  have z1 : (b == 0) = false := by simp; omega
  have z2 : (a == 0) = false := by simp; omega
  clear hF hL ha hb s1 s2 p1 p2
  go_enter Try.func37, Try.ntmps37
  go_wp2_with fail
  go_quiet (fail)
  go_wp2_with fail
  go_quiet (fail)
  go_wp2
  go_ret2
  exact ⟨rfl, by (repeat' (first | (with_reducible exact Below.refl _ _) | (with_reducible assumption) | (with_reducible refine belowThru ?_ (by assumption)) | (with_reducible refine belowAlloc ?_) | (with_reducible refine Below.setCell ?_ (by first | omega | (simp; done) | (simp; omega)) _) | (with_reducible refine Below.drew ?_) | (with_reducible refine below_drewN ?_ _)))⟩
end Go.Proofs.Ytnkpejinnbiocaa
