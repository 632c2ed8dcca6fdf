/-
  Layer 9: Reach and Clear by the code; belts and windows, by the document's own.
-/
import Derived.Test.YtbcnoklaaigclaaVWin
namespace Go.Proofs.Ytbcnoklaaigclaa
open Go.RowKit
set_option linter.unusedVariables false
set_option linter.unusedSimpArgs false

set_option maxRecDepth 100000 in
set_option maxHeartbeats 4000000 in
theorem reach_any (s p g l n : Int) (w : World) :
    Calls Try.prog 18 #[.agg #[.int .i64 s, .int .i64 p, .int .i64 g, .int .i64 l], .int .i64 n] w fun e w' => e = .returned (.tuple #[.int .i64 (reF s p g l n), .int .i64 (reL s p g l n), .int .i64 (reE s p g l n)]) ∧ Below w.heap.size w w' := by
  by_cases h : okB s p g l
  · have HC := HCk s p g l 0 (if_pos h)
    by_cases hd : 0 ≤ n ∧ n ≤ 1000000
    · have HP : Hid (∀ w, Calls Try.prog 55 #[.int .i64 n, .int .i64 0, .int .i64 1000000] w fun e w' => e = .returned (.bool true) ∧ w = w') := vwithin_yes n 0 1000000 hd.1 hd.2
      have HM := Lib.hid (moves_any s p g l h.1 h.2.1)
      have e1 : reF s p g l n = n * (s - p) := if_pos ⟨h, hd⟩
      have e2 : reL s p g l n = n * (s + p) := if_pos ⟨h, hd⟩
      have e3 : reE s p g l n = 0 := (if_pos h).trans (if_pos hd)
      rw [e1, e2, e3]
      clear e1 e2 e3
      obtain ⟨⟨s1, s2⟩, ⟨p1, p2⟩, -⟩ := h
      obtain ⟨d1, d2⟩ := hd
      obtain ⟨F, hF⟩ : ∃ F, s - p = F := ⟨_, rfl⟩
      obtain ⟨L, hL⟩ : ∃ L, s + p = L := ⟨_, rfl⟩
      rw [hF, hL] at HM ⊢
      have f1 : 0 ≤ n * F ∧ n * F ≤ 1000000 * 1000 := ⟨Int.mul_nonneg d1 (by omega), Int.mul_le_mul d2 (by omega) (by omega) (by omega)⟩
      have f2 : 0 ≤ n * L ∧ n * L ≤ 1000000 * 2000 := ⟨Int.mul_nonneg d1 (by omega), Int.mul_le_mul d2 (by omega) (by omega) (by omega)⟩
      have v1 : IntKind.i64.wrap (n * F) = n * F := IntWalk.i64_in _ (by omega)
      have v2 : IntKind.i64.wrap (n * L) = n * L := IntWalk.i64_in _ (by omega)
      clear hF hL f1 f2 d1 d2 s1 s2 p1 p2
      go_enter Try.func18, Try.ntmps18
      go_wp2_with (first
        | (go_at_call 55; ((with_reducible refine (HP.out _).mono ?_); rintro e w2 ⟨rfl, rfl⟩)))
      refine (HC.out _).mono ?_
      rintro e w1 ⟨rfl, hb⟩
      have k0 : Blk w1 w.heap.size #[.int .i64 s, .int .i64 p, .int .i64 g, .int .i64 l] 26 := Blk.later hb (by (repeat' (first | (with_reducible assumption) | ((with_reducible refine Blk.new ?_); first | rfl | (simp; done)) | (with_reducible refine Blk.later (by assumption) ?_) | (with_reducible refine Blk.alloc ?_) | (with_reducible refine Blk.drewN ?_) | (with_reducible refine Blk.drew ?_) | (with_reducible refine Blk.other ?_ (by first | omega | (simp; done) | (simp; omega))))))
      have hB : Below w.heap.size w w1 := by (repeat' (first | (with_reducible exact Below.refl _ _) | (with_reducible assumption) | (with_reducible refine belowThru ?_ (by assumption)) | (with_reducible refine belowAlloc ?_) | (with_reducible refine Below.setCell ?_ (by first | omega | (simp; done) | (simp; omega)) _) | (with_reducible refine Below.drew ?_) | (with_reducible refine below_drewN ?_ _)))
      obtain ⟨a0, b0⟩ := k0.read
      have y0 := k0.lt
      clear hb
      go_wp2_with (first
        | (go_at_call 55; ((with_reducible refine (HP.out _).mono ?_); rintro e w2 ⟨rfl, rfl⟩))
        | (go_at_call 56; ((with_reducible refine (HM.out _).mono ?_); rintro e w2 ⟨rfl, hb⟩)))
      exact bodyPost_ret (v := .tuple #[.int .i64 (n * F), .int .i64 (n * L), .int .i64 0]) (by simp only [results, Try.results18]; go_simp) rfl ⟨rfl, by (repeat' (first | (with_reducible exact Below.refl _ _) | (with_reducible assumption) | (with_reducible refine belowThru ?_ (by assumption)) | (with_reducible refine belowAlloc ?_) | (with_reducible refine Below.setCell ?_ (by first | omega | (simp; done) | (simp; omega)) _) | (with_reducible refine Below.drew ?_) | (with_reducible refine below_drewN ?_ _)))⟩
    · have HP : Hid (∀ w, Calls Try.prog 55 #[.int .i64 n, .int .i64 0, .int .i64 1000000] w fun e w' => e = .returned (.bool false) ∧ w = w') := vwithin_no n 0 1000000 hd
      have e1 : reF s p g l n = 0 := if_neg (fun k => hd k.2)
      have e2 : reL s p g l n = 0 := if_neg (fun k => hd k.2)
      have e3 : reE s p g l n = 2 := (if_pos h).trans (if_neg hd)
      rw [e1, e2, e3]
      clear e1 e2 e3 h hd
      go_enter Try.func18, Try.ntmps18
      go_wp2_with (first
        | (go_at_call 26; ((with_reducible refine (HC.out _).mono ?_); rintro e w1 ⟨rfl, hb⟩))
        | (go_at_call 55; ((with_reducible refine (HP.out _).mono ?_); rintro e w2 ⟨rfl, rfl⟩)))
      exact bodyPost_ret (v := .tuple #[.int .i64 0, .int .i64 0, .int .i64 2]) (by simp only [results, Try.results18]; go_simp) rfl ⟨rfl, by (repeat' (first | (with_reducible exact Below.refl _ _) | (with_reducible assumption) | (with_reducible refine belowThru ?_ (by assumption)) | (with_reducible refine belowAlloc ?_) | (with_reducible refine Below.setCell ?_ (by first | omega | (simp; done) | (simp; omega)) _) | (with_reducible refine Below.drew ?_) | (with_reducible refine below_drewN ?_ _)))⟩
  · have HC := HCk s p g l 90 (if_neg h)
    have e1 : reF s p g l n = 0 := if_neg (fun k => h k.1)
    have e2 : reL s p g l n = 0 := if_neg (fun k => h k.1)
    have e3 : reE s p g l n = 90 := if_neg h
    rw [e1, e2, e3]
    clear e1 e2 e3 h
    go_enter Try.func18, Try.ntmps18
    go_wp2_with (go_at_call 26; ((with_reducible refine (HC.out _).mono ?_); rintro e w1 ⟨rfl, hb⟩))
    exact bodyPost_ret (v := .tuple #[.int .i64 0, .int .i64 0, .int .i64 90]) (by simp only [results, Try.results18]; go_simp) rfl ⟨rfl, by (repeat' (first | (with_reducible exact Below.refl _ _) | (with_reducible assumption) | (with_reducible refine belowThru ?_ (by assumption)) | (with_reducible refine belowAlloc ?_) | (with_reducible refine Below.setCell ?_ (by first | omega | (simp; done) | (simp; omega)) _) | (with_reducible refine Below.drew ?_) | (with_reducible refine below_drewN ?_ _)))⟩
set_option maxRecDepth 100000 in
set_option maxHeartbeats 4000000 in
theorem clear_any (s p g l : Int) (w : World) :
    Calls Try.prog 31 #[.agg #[.int .i64 s, .int .i64 p, .int .i64 g, .int .i64 l]] w fun e w' => e = .returned (.tuple #[.int .i64 (clN s p g l), .int .i64 (ckB s p g l)]) ∧ Below w.heap.size w w' := by
  by_cases h : okB s p g l
  · have HC := HCk s p g l 0 (if_pos h)
    have HW := Lib.hid (windowOf_any s p g l g h h.2.2.1.1 h.2.2.1.2)
    have e1 : clN s p g l = laB s p l g - fiB s p g + 1 := if_pos h
    have e3 : ckB s p g l = 0 := if_pos h
    rw [e1, e3]
    have f1 := fiB_bd h.1.1 h.2.1.1 h.2.2.1.1
    have f2 := laB_bd (s := s) (l := l) h.2.1.2 h.2.2.1.1 (by have := h.2.2.2.1; omega)
    have f3 := fi_la h h.2.2.1.1
    have f4 := h.2.2.1.2
    have f5 := h.2.2.2.2
    clear e1 e3 h
    obtain ⟨F, hF⟩ : ∃ F, fiB s p g = F := ⟨_, rfl⟩
    obtain ⟨L, hL⟩ : ∃ L, laB s p l g = L := ⟨_, rfl⟩
    rw [hF, hL] at HW f3 ⊢
    rw [hF] at f1
    rw [hL] at f2
    have v1 : IntKind.i64.wrap (L - F) = L - F := IntWalk.i64_in _ (by omega)
    have v2 : IntKind.i64.wrap (L - F + 1) = L - F + 1 := IntWalk.i64_in _ (by omega)
    clear hF hL f1 f2 f3 f4 f5
    go_enter Try.func31, Try.ntmps31
    go_wp2_with fail
    refine (HC.out _).mono ?_
    rintro e w1 ⟨rfl, hb⟩
    have k0 : Blk w1 w.heap.size #[.int .i64 s, .int .i64 p, .int .i64 g, .int .i64 l] 26 := Blk.later hb (by (repeat' (first | (with_reducible assumption) | ((with_reducible refine Blk.new ?_); first | rfl | (simp; done)) | (with_reducible refine Blk.later (by assumption) ?_) | (with_reducible refine Blk.alloc ?_) | (with_reducible refine Blk.drewN ?_) | (with_reducible refine Blk.drew ?_) | (with_reducible refine Blk.other ?_ (by first | omega | (simp; done) | (simp; omega))))))
    have hB : Below w.heap.size w w1 := by (repeat' (first | (with_reducible exact Below.refl _ _) | (with_reducible assumption) | (with_reducible refine belowThru ?_ (by assumption)) | (with_reducible refine belowAlloc ?_) | (with_reducible refine Below.setCell ?_ (by first | omega | (simp; done) | (simp; omega)) _) | (with_reducible refine Below.drew ?_) | (with_reducible refine below_drewN ?_ _)))
    obtain ⟨a0, b0⟩ := k0.read
    have y0 := k0.lt
    clear hb
    go_wp2_with (go_at_call 54; ((with_reducible refine (HW.out _).mono ?_); rintro e w2 ⟨rfl, hb⟩))
    go_ret2
    exact ⟨by simp_all, by (repeat' (first | (with_reducible exact Below.refl _ _) | (with_reducible assumption) | (with_reducible refine belowThru ?_ (by assumption)) | (with_reducible refine belowAlloc ?_) | (with_reducible refine Below.setCell ?_ (by first | omega | (simp; done) | (simp; omega)) _) | (with_reducible refine Below.drew ?_) | (with_reducible refine below_drewN ?_ _)))⟩
  · have HC := HCk s p g l 90 (if_neg h)
    have e1 : clN s p g l = 0 := if_neg h
    have e3 : ckB s p g l = 90 := if_neg h
    rw [e1, e3]
    clear e1 e3 h
    go_enter Try.func31, Try.ntmps31
    go_wp2_with (go_at_call 26; ((with_reducible refine (HC.out _).mono ?_); rintro e w1 ⟨rfl, hb⟩))
    go_ret2
    exact ⟨rfl, by (repeat' (first | (with_reducible exact Below.refl _ _) | (with_reducible assumption) | (with_reducible refine belowThru ?_ (by assumption)) | (with_reducible refine belowAlloc ?_) | (with_reducible refine Below.setCell ?_ (by first | omega | (simp; done) | (simp; omega)) _) | (with_reducible refine Below.drew ?_) | (with_reducible refine below_drewN ?_ _)))⟩

/-! ### The document's own -/
set_option maxHeartbeats 400000 in
theorem rvwithin_any (n lo hi : Int) (w : World) :
    Calls Try.prog 71 #[.int .i64 n, .int .i64 lo, .int .i64 hi] w fun e w' => e = .returned (.bool (decide (lo ≤ n ∧ n ≤ hi))) ∧ w = w' := by
  by_cases h1 : lo ≤ n
  · by_cases h2 : n ≤ hi
    · rw [decide_eq_true ⟨h1, h2⟩]
      go_enter Try.func71, Try.ntmps71
      go_wp2
      go_ret
      exact ⟨rfl, rfl⟩
    · rw [decide_eq_false (fun k => h2 k.2)]
      have hd : decide (n ≤ hi) = false := by simp; omega
      clear h2
      go_enter Try.func71, Try.ntmps71
      go_wp2
      go_ret
      exact ⟨by first | rfl | simp, rfl⟩
  · rw [decide_eq_false (fun k => h1 k.1)]
    go_enter Try.func71, Try.ntmps71
    go_wp2
    go_ret
    exact ⟨by first | rfl | simp, rfl⟩
theorem HRw (n lo hi : Int) (b : Bool) (h : decide (lo ≤ n ∧ n ≤ hi) = b) : Hid (∀ w, Calls Try.prog 71 #[.int .i64 n, .int .i64 lo, .int .i64 hi] w fun e w' => e = .returned (.bool b) ∧ w = w') := fun w => by
  have := rvwithin_any n lo hi w
  rwa [h] at this
set_option maxHeartbeats 4000000 in
theorem rvalid_walk (s p g l : Int) (b1 b2 b3 b4 : Bool) (hs : b1 = true → 1 ≤ s ∧ s ≤ 1000) (w : World)
    (H1 : Hid (∀ w, Calls Try.prog 71 #[.int .i64 s, .int .i64 1, .int .i64 1000] w fun e w' => e = .returned (.bool b1) ∧ w = w'))
    (H2 : Hid (∀ w, Calls Try.prog 71 #[.int .i64 p, .int .i64 0, .int .i64 (s - 1)] w fun e w' => e = .returned (.bool b2) ∧ w = w'))
    (H3 : Hid (∀ w, Calls Try.prog 71 #[.int .i64 g, .int .i64 1, .int .i64 1000000] w fun e w' => e = .returned (.bool b3) ∧ w = w'))
    (H4 : Hid (∀ w, Calls Try.prog 71 #[.int .i64 l, .int .i64 1, .int .i64 1000000] w fun e w' => e = .returned (.bool b4) ∧ w = w')) :
    Calls Try.prog 46 #[.agg #[.int .i64 s, .int .i64 p, .int .i64 g, .int .i64 l]] w fun e w' => e = .returned (.bool (b1 && b2 && b3 && b4)) ∧ Below w.heap.size w w' := by
  cases b1 with
  | false =>
    clear hs
    go_enter Try.func46, Try.ntmps46
    go_wp2_with (go_at_call 71; ((with_reducible refine (H1.out _).mono ?_); rintro e w1 ⟨rfl, rfl⟩))
    go_ret
    exact ⟨rfl, by (repeat' (first | (with_reducible exact Below.refl _ _) | (with_reducible assumption) | (with_reducible refine belowThru ?_ (by assumption)) | (with_reducible refine belowAlloc ?_) | (with_reducible refine Below.setCell ?_ (by first | omega | (simp; done) | (simp; omega)) _) | (with_reducible refine Below.drew ?_) | (with_reducible refine below_drewN ?_ _)))⟩
  | true =>
    obtain ⟨hs1, hs2⟩ := hs rfl
    clear hs
    cases b2
    all_goals cases b3
    all_goals cases b4
    all_goals
      go_enter Try.func46, Try.ntmps46
      go_wp2_with (first
        | (go_at_call 71; ((with_reducible refine (H1.out _).mono ?_); rintro e w1 ⟨rfl, rfl⟩))
        | (go_at_call 71; ((with_reducible refine (H2.out _).mono ?_); rintro e w1 ⟨rfl, rfl⟩))
        | (go_at_call 71; ((with_reducible refine (H3.out _).mono ?_); rintro e w1 ⟨rfl, rfl⟩))
        | (go_at_call 71; ((with_reducible refine (H4.out _).mono ?_); rintro e w1 ⟨rfl, rfl⟩)))
      go_ret
      exact ⟨rfl, by (repeat' (first | (with_reducible exact Below.refl _ _) | (with_reducible assumption) | (with_reducible refine belowThru ?_ (by assumption)) | (with_reducible refine belowAlloc ?_) | (with_reducible refine Below.setCell ?_ (by first | omega | (simp; done) | (simp; omega)) _) | (with_reducible refine Below.drew ?_) | (with_reducible refine below_drewN ?_ _)))⟩
theorem rvalid_any (s p g l : Int) (w : World) :
    Calls Try.prog 46 #[.agg #[.int .i64 s, .int .i64 p, .int .i64 g, .int .i64 l]] w fun e w' => e = .returned (.bool (decide (okB s p g l))) ∧ Below w.heap.size w w' := by
  have h := rvalid_walk s p g l _ _ _ _ (fun h => of_decide_eq_true h) w (rvwithin_any s 1 1000) (rvwithin_any p 0 (s - 1)) (rvwithin_any g 1 1000000) (rvwithin_any l 1 1000000)
  have e : (decide (1 ≤ s ∧ s ≤ 1000) && decide (0 ≤ p ∧ p ≤ s - 1) && decide (1 ≤ g ∧ g ≤ 1000000) && decide (1 ≤ l ∧ l ≤ 1000000)) = decide (okB s p g l) := by
    unfold okB
    rw [Bool.eq_iff_iff]
    simp [and_assoc]
  rwa [e] at h
theorem HRv (s p g l : Int) (b : Bool) (h : decide (okB s p g l) = b) : Hid (∀ w, Calls Try.prog 46 #[.agg #[.int .i64 s, .int .i64 p, .int .i64 g, .int .i64 l]] w fun e w' => e = .returned (.bool b) ∧ Below w.heap.size w w') := fun w => by
  have := rvalid_any s p g l w
  rwa [h] at this
set_option maxHeartbeats 4000000 in
theorem rckB_any (s p g l : Int) (w : World) :
    Calls Try.prog 33 #[.agg #[.int .i64 s, .int .i64 p, .int .i64 g, .int .i64 l]] w fun e w' => e = .returned (.int .i64 (ckB s p g l)) ∧ Below w.heap.size w w' := by
  by_cases h : okB s p g l
  · have HV := HRv s p g l true (decide_eq_true h)
    rw [show ckB s p g l = 0 from if_pos h]
    clear h
    go_enter Try.func33, Try.ntmps33
    go_wp2_with (go_at_call 46; ((with_reducible refine (HV.out _).mono ?_); rintro e w1 ⟨rfl, hb⟩))
    go_ret
    exact ⟨rfl, by (repeat' (first | (with_reducible exact Below.refl _ _) | (with_reducible assumption) | (with_reducible refine belowThru ?_ (by assumption)) | (with_reducible refine belowAlloc ?_) | (with_reducible refine Below.setCell ?_ (by first | omega | (simp; done) | (simp; omega)) _) | (with_reducible refine Below.drew ?_) | (with_reducible refine below_drewN ?_ _)))⟩
  · have HV := HRv s p g l false (decide_eq_false h)
    rw [show ckB s p g l = 90 from if_neg h]
    clear h
    go_enter Try.func33, Try.ntmps33
    go_wp2_with (go_at_call 46; ((with_reducible refine (HV.out _).mono ?_); rintro e w1 ⟨rfl, hb⟩))
    go_ret
    exact ⟨rfl, by (repeat' (first | (with_reducible exact Below.refl _ _) | (with_reducible assumption) | (with_reducible refine belowThru ?_ (by assumption)) | (with_reducible refine belowAlloc ?_) | (with_reducible refine Below.setCell ?_ (by first | omega | (simp; done) | (simp; omega)) _) | (with_reducible refine Below.drew ?_) | (with_reducible refine below_drewN ?_ _)))⟩
set_option maxRecDepth 100000 in
set_option maxHeartbeats 4000000 in
theorem ends_any (s p g l d : Int) (h : okB s p g l) (h1 : 1 ≤ d) (h2 : d ≤ 1000000) (w : World) :
    Calls Try.prog 70 #[.agg #[.int .i64 s, .int .i64 p, .int .i64 g, .int .i64 l], .int .i64 d] w fun e w' => e = .returned (.tuple #[.int .i64 (fiB s p d), .int .i64 (laB s p l d)]) ∧ Below w.heap.size w w' := by
  obtain ⟨⟨s1, s2⟩, ⟨p1, p2⟩, ⟨g1, g2⟩, l1, l2⟩ := h
  obtain ⟨F, hF⟩ : ∃ F, fiB s p d = F := ⟨_, rfl⟩
  obtain ⟨L, hL⟩ : ∃ L, laB s p l d = L := ⟨_, rfl⟩
  obtain ⟨a, ha⟩ : ∃ a, s - p = a := ⟨_, rfl⟩
  obtain ⟨b, hb⟩ : ∃ b, s + p = b := ⟨_, rfl⟩
  rw [hF, hL]
  have a1 : 1 ≤ a := by omega
  have b1 : 1 ≤ b := by omega
  have b2 : b ≤ 2000 := by omega
  have e0 : IntKind.i64.wrap (s - p) = a := by rw [IntWalk.i64_in _ (by omega), ha]
  have e00 : IntKind.i64.wrap (s + p) = b := by rw [IntWalk.i64_in _ (by omega), hb]
  have e1 : IntKind.i64.wrap (d + b) = d + b := IntWalk.i64_in _ (by omega)
  have e2 : IntKind.i64.wrap (d + b - 1) = d + b - 1 := IntWalk.i64_in _ (by omega)
  have e3 : IntKind.i64.wrap (d + l) = d + l := IntWalk.i64_in _ (by omega)
  have e4 : (d + b - 1).tdiv b = F := by rw [← hF, Int.tdiv_eq_ediv_of_nonneg (by omega), ← hb]; rfl
  have hq := laB_bd (s := s) (l := l) p2 h1 (by omega)
  rw [hL] at hq
  have e5 : (d + l).tdiv a = L - 1 := by rw [← hL, Int.tdiv_eq_ediv_of_nonneg (by omega), ← ha]; unfold laB; omega
  have hf := fiB_bd (d := d) s1 p1 h1
  rw [hF] at hf
  obtain ⟨hf1, hf2⟩ := hf
  obtain ⟨hq1, hq2⟩ := hq
  have e6 : IntKind.i64.wrap F = F := IntWalk.i64_in _ (by omega)
  have e7 : IntKind.i64.wrap (L - 1) = L - 1 := IntWalk.i64_in _ (by omega)
  have e8 : IntKind.i64.wrap (L - 1 + 1) = L := by rw [show L - 1 + 1 = L by omega]; exact IntWalk.i64_in _ (by omega)
  have z1 : (b == 0) = false := by simp; omega
  have z2 : (a == 0) = false := by simp; omega
  clear hF hL ha hb s1 s2 p1 p2
  go_enter Try.func70, Try.ntmps70
  go_wp2_with fail
  go_quiet (fail)
  go_wp2_with fail
  go_quiet (fail)
  go_wp2
  go_ret2
  exact ⟨rfl, by (repeat' (first | (with_reducible exact Below.refl _ _) | (with_reducible assumption) | (with_reducible refine belowThru ?_ (by assumption)) | (with_reducible refine belowAlloc ?_) | (with_reducible refine Below.setCell ?_ (by first | omega | (simp; done) | (simp; omega)) _) | (with_reducible refine Below.drew ?_) | (with_reducible refine below_drewN ?_ _)))⟩
set_option maxRecDepth 100000 in
set_option maxHeartbeats 4000000 in
theorem rwindow_any (s p g l d : Int) (w : World) :
    Calls Try.prog 29 #[.agg #[.int .i64 s, .int .i64 p, .int .i64 g, .int .i64 l], .int .i64 d] w fun e w' => e = .returned (.tuple #[.int .i64 (wiF s p g l d), .int .i64 (wiL s p g l d), .int .i64 (wiE s p g l d)]) ∧ Below w.heap.size w w' := by
  by_cases h : okB s p g l
  · have HC := HRv s p g l true (decide_eq_true h)
    by_cases hd : 1 ≤ d ∧ d ≤ 1000000
    · have HP := HRw d 1 1000000 true (decide_eq_true hd)
      have HW := Lib.hid (ends_any s p g l d h hd.1 hd.2)
      have e1 : wiF s p g l d = fiB s p d := if_pos ⟨h, hd⟩
      have e2 : wiL s p g l d = laB s p l d := if_pos ⟨h, hd⟩
      have e3 : wiE s p g l d = 0 := (if_pos h).trans (if_pos hd)
      rw [e1, e2, e3]
      clear e1 e2 e3 h hd
      obtain ⟨F, hF⟩ : ∃ F, fiB s p d = F := ⟨_, rfl⟩
      obtain ⟨L, hL⟩ : ∃ L, laB s p l d = L := ⟨_, rfl⟩
      rw [hF, hL] at HW ⊢
      clear hF hL
      go_enter Try.func29, Try.ntmps29
      go_wp2_with fail
      refine (HC.out _).mono ?_
      rintro e w1 ⟨rfl, hb⟩
      have k0 : Blk w1 w.heap.size #[.int .i64 s, .int .i64 p, .int .i64 g, .int .i64 l] 26 := Blk.later hb (by (repeat' (first | (with_reducible assumption) | ((with_reducible refine Blk.new ?_); first | rfl | (simp; done)) | (with_reducible refine Blk.later (by assumption) ?_) | (with_reducible refine Blk.alloc ?_) | (with_reducible refine Blk.drewN ?_) | (with_reducible refine Blk.drew ?_) | (with_reducible refine Blk.other ?_ (by first | omega | (simp; done) | (simp; omega))))))
      have hB : Below w.heap.size w w1 := by (repeat' (first | (with_reducible exact Below.refl _ _) | (with_reducible assumption) | (with_reducible refine belowThru ?_ (by assumption)) | (with_reducible refine belowAlloc ?_) | (with_reducible refine Below.setCell ?_ (by first | omega | (simp; done) | (simp; omega)) _) | (with_reducible refine Below.drew ?_) | (with_reducible refine below_drewN ?_ _)))
      obtain ⟨a0, b0⟩ := k0.read
      have y0 := k0.lt
      clear hb
      go_wp2_with (first
        | (go_at_call 71; ((with_reducible refine (HP.out _).mono ?_); rintro e w2 ⟨rfl, rfl⟩))
        | (go_at_call 70; ((with_reducible refine (HW.out _).mono ?_); rintro e w2 ⟨rfl, hb⟩)))
      exact bodyPost_ret (v := .tuple #[.int .i64 F, .int .i64 L, .int .i64 0]) (by simp only [results, Try.results29]; go_simp) rfl ⟨rfl, by (repeat' (first | (with_reducible exact Below.refl _ _) | (with_reducible assumption) | (with_reducible refine belowThru ?_ (by assumption)) | (with_reducible refine belowAlloc ?_) | (with_reducible refine Below.setCell ?_ (by first | omega | (simp; done) | (simp; omega)) _) | (with_reducible refine Below.drew ?_) | (with_reducible refine below_drewN ?_ _)))⟩
    · have HP := HRw d 1 1000000 false (decide_eq_false hd)
      have e1 : wiF s p g l d = 0 := if_neg (fun k => hd k.2)
      have e2 : wiL s p g l d = 0 := if_neg (fun k => hd k.2)
      have e3 : wiE s p g l d = 2 := (if_pos h).trans (if_neg hd)
      rw [e1, e2, e3]
      clear e1 e2 e3 h hd
      go_enter Try.func29, Try.ntmps29
      go_wp2_with (first
        | (go_at_call 46; ((with_reducible refine (HC.out _).mono ?_); rintro e w1 ⟨rfl, hb⟩))
        | (go_at_call 71; ((with_reducible refine (HP.out _).mono ?_); rintro e w2 ⟨rfl, rfl⟩)))
      exact bodyPost_ret (v := .tuple #[.int .i64 0, .int .i64 0, .int .i64 2]) (by simp only [results, Try.results29]; go_simp) rfl ⟨rfl, by (repeat' (first | (with_reducible exact Below.refl _ _) | (with_reducible assumption) | (with_reducible refine belowThru ?_ (by assumption)) | (with_reducible refine belowAlloc ?_) | (with_reducible refine Below.setCell ?_ (by first | omega | (simp; done) | (simp; omega)) _) | (with_reducible refine Below.drew ?_) | (with_reducible refine below_drewN ?_ _)))⟩
  · have HC := HRv s p g l false (decide_eq_false h)
    have e1 : wiF s p g l d = 0 := if_neg (fun k => h k.1)
    have e2 : wiL s p g l d = 0 := if_neg (fun k => h k.1)
    have e3 : wiE s p g l d = 90 := if_neg h
    rw [e1, e2, e3]
    clear e1 e2 e3 h
    go_enter Try.func29, Try.ntmps29
    go_wp2_with (go_at_call 46; ((with_reducible refine (HC.out _).mono ?_); rintro e w1 ⟨rfl, hb⟩))
    exact bodyPost_ret (v := .tuple #[.int .i64 0, .int .i64 0, .int .i64 90]) (by simp only [results, Try.results29]; go_simp) rfl ⟨rfl, by (repeat' (first | (with_reducible exact Below.refl _ _) | (with_reducible assumption) | (with_reducible refine belowThru ?_ (by assumption)) | (with_reducible refine belowAlloc ?_) | (with_reducible refine Below.setCell ?_ (by first | omega | (simp; done) | (simp; omega)) _) | (with_reducible refine Below.drew ?_) | (with_reducible refine below_drewN ?_ _)))⟩
set_option maxRecDepth 100000 in
set_option maxHeartbeats 4000000 in
theorem rreach_any (s p g l n : Int) (w : World) :
    Calls Try.prog 30 #[.agg #[.int .i64 s, .int .i64 p, .int .i64 g, .int .i64 l], .int .i64 n] w fun e w' => e = .returned (.tuple #[.int .i64 (reF s p g l n), .int .i64 (reL s p g l n), .int .i64 (reE s p g l n)]) ∧ Below w.heap.size w w' := by
  by_cases h : okB s p g l
  · have HC := HRv s p g l true (decide_eq_true h)
    by_cases hd : 0 ≤ n ∧ n ≤ 1000000
    · have HP := HRw n 0 1000000 true (decide_eq_true hd)
      have e1 : reF s p g l n = n * (s - p) := if_pos ⟨h, hd⟩
      have e2 : reL s p g l n = n * (s + p) := if_pos ⟨h, hd⟩
      have e3 : reE s p g l n = 0 := (if_pos h).trans (if_pos hd)
      rw [e1, e2, e3]
      clear e1 e2 e3
      obtain ⟨⟨s1, s2⟩, ⟨p1, p2⟩, -⟩ := h
      obtain ⟨d1, d2⟩ := hd
      obtain ⟨F, hF⟩ : ∃ F, s - p = F := ⟨_, rfl⟩
      obtain ⟨L, hL⟩ : ∃ L, s + p = L := ⟨_, rfl⟩
      have f1 : 0 ≤ n * F ∧ n * F ≤ 1000000 * 1000 := ⟨Int.mul_nonneg d1 (by omega), Int.mul_le_mul d2 (by omega) (by omega) (by omega)⟩
      have f2 : 0 ≤ n * L ∧ n * L ≤ 1000000 * 2000 := ⟨Int.mul_nonneg d1 (by omega), Int.mul_le_mul d2 (by omega) (by omega) (by omega)⟩
      have e0 : IntKind.i64.wrap (s - p) = F := by rw [IntWalk.i64_in _ (by omega), hF]
      have e00 : IntKind.i64.wrap (s + p) = L := by rw [IntWalk.i64_in _ (by omega), hL]
      have v1 : IntKind.i64.wrap (n * F) = n * F := IntWalk.i64_in _ (by omega)
      have v2 : IntKind.i64.wrap (n * L) = n * L := IntWalk.i64_in _ (by omega)
      rw [hF, hL]
      clear hF hL f1 f2 d1 d2 s1 s2 p1 p2
      go_enter Try.func30, Try.ntmps30
      go_wp2_with fail
      refine (HC.out _).mono ?_
      rintro e w1 ⟨rfl, hb⟩
      have k0 : Blk w1 w.heap.size #[.int .i64 s, .int .i64 p, .int .i64 g, .int .i64 l] 26 := Blk.later hb (by (repeat' (first | (with_reducible assumption) | ((with_reducible refine Blk.new ?_); first | rfl | (simp; done)) | (with_reducible refine Blk.later (by assumption) ?_) | (with_reducible refine Blk.alloc ?_) | (with_reducible refine Blk.drewN ?_) | (with_reducible refine Blk.drew ?_) | (with_reducible refine Blk.other ?_ (by first | omega | (simp; done) | (simp; omega))))))
      have hB : Below w.heap.size w w1 := by (repeat' (first | (with_reducible exact Below.refl _ _) | (with_reducible assumption) | (with_reducible refine belowThru ?_ (by assumption)) | (with_reducible refine belowAlloc ?_) | (with_reducible refine Below.setCell ?_ (by first | omega | (simp; done) | (simp; omega)) _) | (with_reducible refine Below.drew ?_) | (with_reducible refine below_drewN ?_ _)))
      obtain ⟨a0, b0⟩ := k0.read
      have y0 := k0.lt
      clear hb
      go_wp2_with (go_at_call 71; ((with_reducible refine (HP.out _).mono ?_); rintro e w2 ⟨rfl, rfl⟩))
      go_quiet (fail)
      go_wp2
      exact bodyPost_ret (v := .tuple #[.int .i64 (n * F), .int .i64 (n * L), .int .i64 0]) (by simp only [results, Try.results30]; go_simp) rfl ⟨rfl, by (repeat' (first | (with_reducible exact Below.refl _ _) | (with_reducible assumption) | (with_reducible refine belowThru ?_ (by assumption)) | (with_reducible refine belowAlloc ?_) | (with_reducible refine Below.setCell ?_ (by first | omega | (simp; done) | (simp; omega)) _) | (with_reducible refine Below.drew ?_) | (with_reducible refine below_drewN ?_ _)))⟩
    · have HP := HRw n 0 1000000 false (decide_eq_false hd)
      have e1 : reF s p g l n = 0 := if_neg (fun k => hd k.2)
      have e2 : reL s p g l n = 0 := if_neg (fun k => hd k.2)
      have e3 : reE s p g l n = 2 := (if_pos h).trans (if_neg hd)
      rw [e1, e2, e3]
      clear e1 e2 e3 h hd
      go_enter Try.func30, Try.ntmps30
      go_wp2_with (first
        | (go_at_call 46; ((with_reducible refine (HC.out _).mono ?_); rintro e w1 ⟨rfl, hb⟩))
        | (go_at_call 71; ((with_reducible refine (HP.out _).mono ?_); rintro e w2 ⟨rfl, rfl⟩)))
      exact bodyPost_ret (v := .tuple #[.int .i64 0, .int .i64 0, .int .i64 2]) (by simp only [results, Try.results30]; go_simp) rfl ⟨rfl, by (repeat' (first | (with_reducible exact Below.refl _ _) | (with_reducible assumption) | (with_reducible refine belowThru ?_ (by assumption)) | (with_reducible refine belowAlloc ?_) | (with_reducible refine Below.setCell ?_ (by first | omega | (simp; done) | (simp; omega)) _) | (with_reducible refine Below.drew ?_) | (with_reducible refine below_drewN ?_ _)))⟩
  · have HC := HRv s p g l false (decide_eq_false h)
    have e1 : reF s p g l n = 0 := if_neg (fun k => h k.1)
    have e2 : reL s p g l n = 0 := if_neg (fun k => h k.1)
    have e3 : reE s p g l n = 90 := if_neg h
    rw [e1, e2, e3]
    clear e1 e2 e3 h
    go_enter Try.func30, Try.ntmps30
    go_wp2_with (go_at_call 46; ((with_reducible refine (HC.out _).mono ?_); rintro e w1 ⟨rfl, hb⟩))
    exact bodyPost_ret (v := .tuple #[.int .i64 0, .int .i64 0, .int .i64 90]) (by simp only [results, Try.results30]; go_simp) rfl ⟨rfl, by (repeat' (first | (with_reducible exact Below.refl _ _) | (with_reducible assumption) | (with_reducible refine belowThru ?_ (by assumption)) | (with_reducible refine belowAlloc ?_) | (with_reducible refine Below.setCell ?_ (by first | omega | (simp; done) | (simp; omega)) _) | (with_reducible refine Below.drew ?_) | (with_reducible refine below_drewN ?_ _)))⟩
set_option maxRecDepth 100000 in
set_option maxHeartbeats 4000000 in
theorem rclear_any (s p g l : Int) (w : World) :
    Calls Try.prog 32 #[.agg #[.int .i64 s, .int .i64 p, .int .i64 g, .int .i64 l]] w fun e w' => e = .returned (.tuple #[.int .i64 (clN s p g l), .int .i64 (ckB s p g l)]) ∧ Below w.heap.size w w' := by
  by_cases h : okB s p g l
  · have HC := HRv s p g l true (decide_eq_true h)
    have HW := Lib.hid (ends_any s p g l g h h.2.2.1.1 h.2.2.1.2)
    have e1 : clN s p g l = laB s p l g - fiB s p g + 1 := if_pos h
    have e3 : ckB s p g l = 0 := if_pos h
    rw [e1, e3]
    have f1 := fiB_bd h.1.1 h.2.1.1 h.2.2.1.1
    have f2 := laB_bd (s := s) (l := l) h.2.1.2 h.2.2.1.1 (by have := h.2.2.2.1; omega)
    have f3 := fi_la h h.2.2.1.1
    have f4 := h.2.2.1.2
    have f5 := h.2.2.2.2
    clear e1 e3 h
    obtain ⟨F, hF⟩ : ∃ F, fiB s p g = F := ⟨_, rfl⟩
    obtain ⟨L, hL⟩ : ∃ L, laB s p l g = L := ⟨_, rfl⟩
    rw [hF, hL] at HW f3 ⊢
    rw [hF] at f1
    rw [hL] at f2
    obtain ⟨f11, f12⟩ := f1
    obtain ⟨f21, f22⟩ := f2
    clear hF hL
    go_enter Try.func32, Try.ntmps32
    go_wp2_with fail
    refine (HC.out _).mono ?_
    rintro e w1 ⟨rfl, hb⟩
    have k0 : Blk w1 w.heap.size #[.int .i64 s, .int .i64 p, .int .i64 g, .int .i64 l] 26 := Blk.later hb (by (repeat' (first | (with_reducible assumption) | ((with_reducible refine Blk.new ?_); first | rfl | (simp; done)) | (with_reducible refine Blk.later (by assumption) ?_) | (with_reducible refine Blk.alloc ?_) | (with_reducible refine Blk.drewN ?_) | (with_reducible refine Blk.drew ?_) | (with_reducible refine Blk.other ?_ (by first | omega | (simp; done) | (simp; omega))))))
    have hB : Below w.heap.size w w1 := by (repeat' (first | (with_reducible exact Below.refl _ _) | (with_reducible assumption) | (with_reducible refine belowThru ?_ (by assumption)) | (with_reducible refine belowAlloc ?_) | (with_reducible refine Below.setCell ?_ (by first | omega | (simp; done) | (simp; omega)) _) | (with_reducible refine Below.drew ?_) | (with_reducible refine below_drewN ?_ _)))
    obtain ⟨a0, b0⟩ := k0.read
    have y0 := k0.lt
    clear hb
    go_wp2_with (go_at_call 70; ((with_reducible refine (HW.out _).mono ?_); rintro e w2 ⟨rfl, hb⟩))
    have hB2 : Below w.heap.size w w2 := belowThru hB hb
    clear hb
    go_loop [6] (fun n => ∃ k : Int, (1 ≤ k ∧ k ≤ L - F + 1) ∧ n = .int .i64 k) (fun n => (L - F + 1 - intOf n).toNat)
    case atStart => exact ⟨1, ⟨by omega, by omega⟩, rfl⟩
    case round =>
      obtain ⟨k, ⟨k1, k2⟩, rfl⟩ := hrel
      by_cases hlt : k + F ≤ L
      · go_wp2
        go_round
        case rel => exact ⟨k + 1, ⟨by omega, by omega⟩, by go_num⟩
        case measure => simp [intOf]; omega
      · obtain rfl : k = L - F + 1 := by omega
        go_wp2
        go_ret2
        exact ⟨rfl, hB2⟩
  · have HC := HRv s p g l false (decide_eq_false h)
    have e1 : clN s p g l = 0 := if_neg h
    have e3 : ckB s p g l = 90 := if_neg h
    rw [e1, e3]
    clear e1 e3 h
    go_enter Try.func32, Try.ntmps32
    go_wp2_with (go_at_call 46; ((with_reducible refine (HC.out _).mono ?_); rintro e w1 ⟨rfl, hb⟩))
    go_ret2
    exact ⟨rfl, by (repeat' (first | (with_reducible exact Below.refl _ _) | (with_reducible assumption) | (with_reducible refine belowThru ?_ (by assumption)) | (with_reducible refine belowAlloc ?_) | (with_reducible refine Below.setCell ?_ (by first | omega | (simp; done) | (simp; omega)) _) | (with_reducible refine Below.drew ?_) | (with_reducible refine below_drewN ?_ _)))⟩
set_option maxRecDepth 100000 in
set_option maxHeartbeats 4000000 in
theorem slow_any (s p g l : Int) (w : World) :
    Calls Try.prog 28 #[.agg #[.int .i64 s, .int .i64 p, .int .i64 g, .int .i64 l]] w fun e w' => e = .returned (.bool (decide (okB s p g l ∧ 100000 < laB s p l g - fiB s p g))) ∧ Below w.heap.size w w' := by
  by_cases h : okB s p g l
  · have es : decide (okB s p g l ∧ 100000 < laB s p l g - fiB s p g) = decide (100000 < laB s p l g - fiB s p g) := by simp [h]
    rw [es]
    clear es
    have HC := HRv s p g l true (decide_eq_true h)
    have HW := Lib.hid (ends_any s p g l g h h.2.2.1.1 h.2.2.1.2)
    have f1 := fiB_bd h.1.1 h.2.1.1 h.2.2.1.1
    have f2 := laB_bd (s := s) (l := l) h.2.1.2 h.2.2.1.1 (by have := h.2.2.2.1; omega)
    have f4 := h.2.2.1.2
    have f5 := h.2.2.2.2
    clear h
    obtain ⟨F, hF⟩ : ∃ F, fiB s p g = F := ⟨_, rfl⟩
    obtain ⟨L, hL⟩ : ∃ L, laB s p l g = L := ⟨_, rfl⟩
    rw [hF, hL] at HW ⊢
    rw [hF] at f1
    rw [hL] at f2
    obtain ⟨f11, f12⟩ := f1
    obtain ⟨f21, f22⟩ := f2
    clear hF hL
    go_enter Try.func28, Try.ntmps28
    go_wp2_with fail
    refine (HC.out _).mono ?_
    rintro e w1 ⟨rfl, hb⟩
    have k0 : Blk w1 w.heap.size #[.int .i64 s, .int .i64 p, .int .i64 g, .int .i64 l] 26 := Blk.later hb (by (repeat' (first | (with_reducible assumption) | ((with_reducible refine Blk.new ?_); first | rfl | (simp; done)) | (with_reducible refine Blk.later (by assumption) ?_) | (with_reducible refine Blk.alloc ?_) | (with_reducible refine Blk.drewN ?_) | (with_reducible refine Blk.drew ?_) | (with_reducible refine Blk.other ?_ (by first | omega | (simp; done) | (simp; omega))))))
    have hB : Below w.heap.size w w1 := by (repeat' (first | (with_reducible exact Below.refl _ _) | (with_reducible assumption) | (with_reducible refine belowThru ?_ (by assumption)) | (with_reducible refine belowAlloc ?_) | (with_reducible refine Below.setCell ?_ (by first | omega | (simp; done) | (simp; omega)) _) | (with_reducible refine Below.drew ?_) | (with_reducible refine below_drewN ?_ _)))
    obtain ⟨a0, b0⟩ := k0.read
    have y0 := k0.lt
    clear hb
    go_wp2_with (go_at_call 70; ((with_reducible refine (HW.out _).mono ?_); rintro e w2 ⟨rfl, hb⟩))
    go_ret
    exact ⟨rfl, by (repeat' (first | (with_reducible exact Below.refl _ _) | (with_reducible assumption) | (with_reducible refine belowThru ?_ (by assumption)) | (with_reducible refine belowAlloc ?_) | (with_reducible refine Below.setCell ?_ (by first | omega | (simp; done) | (simp; omega)) _) | (with_reducible refine Below.drew ?_) | (with_reducible refine below_drewN ?_ _)))⟩
  · have HC := HRv s p g l false (decide_eq_false h)
    rw [decide_eq_false (fun k => h k.1)]
    clear h
    go_enter Try.func28, Try.ntmps28
    go_wp2_with (go_at_call 46; ((with_reducible refine (HC.out _).mono ?_); rintro e w1 ⟨rfl, hb⟩))
    go_ret
    exact ⟨rfl, by (repeat' (first | (with_reducible exact Below.refl _ _) | (with_reducible assumption) | (with_reducible refine belowThru ?_ (by assumption)) | (with_reducible refine belowAlloc ?_) | (with_reducible refine Below.setCell ?_ (by first | omega | (simp; done) | (simp; omega)) _) | (with_reducible refine Below.drew ?_) | (with_reducible refine below_drewN ?_ _)))⟩
end Go.Proofs.Ytbcnoklaaigclaa
