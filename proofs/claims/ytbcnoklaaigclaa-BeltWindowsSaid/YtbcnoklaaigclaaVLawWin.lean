/-
  The law BeltWindows.
-/
import Derived.Test.YtbcnoklaaigclaaVRef
namespace Go.Proofs.Ytbcnoklaaigclaa
open Go.RowKit
set_option linter.unusedVariables false
set_option linter.unusedSimpArgs false

set_option maxRecDepth 100000 in
set_option maxHeartbeats 16000000 in
theorem windows_slow (s p g l d n : Int) (w : World) (HS : Hid (∀ w, Calls Try.prog 28 #[.agg #[.int .i64 s, .int .i64 p, .int .i64 g, .int .i64 l]] w fun e w' => e = .returned (.bool true) ∧ Below w.heap.size w w')) :
    Calls Try.prog 4 #[.agg #[.int .i64 s, .int .i64 p, .int .i64 g, .int .i64 l], .int .i64 d, .int .i64 n] w fun e w' => e = .returned (.bool true) ∧ Below w.heap.size w w' := by
  go_enter Try.func4, Try.ntmps4
  go_wp2_with fail
  refine (HS.out _).mono ?_
  rintro e w1 ⟨rfl, hb⟩
  have k0 : Blk w1 (w.heap.size) #[.int .i64 s, .int .i64 p, .int .i64 g, .int .i64 l] 26 := Blk.later hb (by repeat first | exact (Blk.new (by first | rfl | simp)) | apply Blk.alloc); obtain ⟨a0, b0⟩ := k0.read; have y0 := k0.lt
  have hBw : Below w.heap.size w w1 := belowThru (by repeat first | exact (Below.refl _ _) | apply belowAlloc) hb; have hzw1 := hBw.size; clear hb
  go_wp2_with fail
  go_ret
  exact ⟨rfl, by (repeat' (first | (with_reducible exact Below.refl _ _) | (with_reducible assumption) | (with_reducible refine belowThru ?_ (by assumption)) | (with_reducible refine belowAlloc ?_) | (with_reducible refine Below.setCell ?_ (by first | omega | (simp; done) | (simp; omega)) _) | (with_reducible refine Below.drew ?_) | (with_reducible refine below_drewN ?_ _)))⟩
set_option maxRecDepth 100000 in
set_option maxHeartbeats 16000000 in
theorem windows_walk (s p g l d n A C E X Y Z M N Q : Int) (w : World) (HS : Hid (∀ w, Calls Try.prog 28 #[.agg #[.int .i64 s, .int .i64 p, .int .i64 g, .int .i64 l]] w fun e w' => e = .returned (.bool false) ∧ Below w.heap.size w w')) (H1 : Hid (∀ w, Calls Try.prog 16 #[.agg #[.int .i64 s, .int .i64 p, .int .i64 g, .int .i64 l], .int .i64 d] w fun e w' => e = .returned (.tuple #[.int .i64 A, .int .i64 C, .int .i64 E]) ∧ Below w.heap.size w w')) (H2 : Hid (∀ w, Calls Try.prog 29 #[.agg #[.int .i64 s, .int .i64 p, .int .i64 g, .int .i64 l], .int .i64 d] w fun e w' => e = .returned (.tuple #[.int .i64 A, .int .i64 C, .int .i64 E]) ∧ Below w.heap.size w w')) (H3 : Hid (∀ w, Calls Try.prog 18 #[.agg #[.int .i64 s, .int .i64 p, .int .i64 g, .int .i64 l], .int .i64 n] w fun e w' => e = .returned (.tuple #[.int .i64 X, .int .i64 Y, .int .i64 Z]) ∧ Below w.heap.size w w')) (H4 : Hid (∀ w, Calls Try.prog 30 #[.agg #[.int .i64 s, .int .i64 p, .int .i64 g, .int .i64 l], .int .i64 n] w fun e w' => e = .returned (.tuple #[.int .i64 X, .int .i64 Y, .int .i64 Z]) ∧ Below w.heap.size w w')) (H5 : Hid (∀ w, Calls Try.prog 31 #[.agg #[.int .i64 s, .int .i64 p, .int .i64 g, .int .i64 l]] w fun e w' => e = .returned (.tuple #[.int .i64 M, .int .i64 N]) ∧ Below w.heap.size w w')) (H6 : Hid (∀ w, Calls Try.prog 32 #[.agg #[.int .i64 s, .int .i64 p, .int .i64 g, .int .i64 l]] w fun e w' => e = .returned (.tuple #[.int .i64 M, .int .i64 N]) ∧ Below w.heap.size w w')) (H7 : Hid (∀ w, Calls Try.prog 26 #[.agg #[.int .i64 s, .int .i64 p, .int .i64 g, .int .i64 l]] w fun e w' => e = .returned (.int .i64 Q) ∧ Below w.heap.size w w')) (H8 : Hid (∀ w, Calls Try.prog 33 #[.agg #[.int .i64 s, .int .i64 p, .int .i64 g, .int .i64 l]] w fun e w' => e = .returned (.int .i64 Q) ∧ Below w.heap.size w w')) :
    Calls Try.prog 4 #[.agg #[.int .i64 s, .int .i64 p, .int .i64 g, .int .i64 l], .int .i64 d, .int .i64 n] w fun e w' => e = .returned (.bool true) ∧ Below w.heap.size w w' := by
  go_enter Try.func4, Try.ntmps4
  go_wp2_with fail
  refine (HS.out _).mono ?_
  rintro e w1 ⟨rfl, hb⟩
  have k0 : Blk w1 (w.heap.size) #[.int .i64 s, .int .i64 p, .int .i64 g, .int .i64 l] 26 := Blk.later hb (by repeat first | exact (Blk.new (by first | rfl | simp)) | apply Blk.alloc); obtain ⟨a0, b0⟩ := k0.read; have y0 := k0.lt
  have hBw : Below w.heap.size w w1 := belowThru (by repeat first | exact (Below.refl _ _) | apply belowAlloc) hb; have hzw1 := hBw.size; clear hb
  go_wp2_with fail
  refine (H1.out _).mono ?_
  rintro e w2 ⟨rfl, hb⟩
  replace k0 := Blk.later hb (by repeat first | exact k0 | apply Blk.alloc); clear a0 b0 y0
  replace hBw : Below w.heap.size w w2 := belowThru (by repeat first | exact hBw | apply belowAlloc) hb
  obtain ⟨a0, b0⟩ := k0.read; have y0 := k0.lt
  have hzw2 := hBw.size; clear hb
  go_wp2_with fail
  refine (H2.out _).mono ?_
  rintro e w3 ⟨rfl, hb⟩
  replace k0 := Blk.later hb (by repeat first | exact k0 | apply Blk.alloc); clear a0 b0 y0
  replace hBw : Below w.heap.size w w3 := belowThru (by repeat first | exact hBw | apply belowAlloc) hb
  obtain ⟨a0, b0⟩ := k0.read; have y0 := k0.lt
  have hzw3 := hBw.size; clear hb
  go_wp2_with fail
  refine (H3.out _).mono ?_
  rintro e w4 ⟨rfl, hb⟩
  replace k0 := Blk.later hb (by repeat first | exact k0 | apply Blk.alloc); clear a0 b0 y0
  replace hBw : Below w.heap.size w w4 := belowThru (by repeat first | exact hBw | apply belowAlloc) hb
  obtain ⟨a0, b0⟩ := k0.read; have y0 := k0.lt
  have hzw4 := hBw.size; clear hb
  go_wp2_with fail
  refine (H4.out _).mono ?_
  rintro e w5 ⟨rfl, hb⟩
  replace k0 := Blk.later hb (by repeat first | exact k0 | apply Blk.alloc); clear a0 b0 y0
  replace hBw : Below w.heap.size w w5 := belowThru (by repeat first | exact hBw | apply belowAlloc) hb
  obtain ⟨a0, b0⟩ := k0.read; have y0 := k0.lt
  have hzw5 := hBw.size; clear hb
  go_wp2_with fail
  refine (H5.out _).mono ?_
  rintro e w6 ⟨rfl, hb⟩
  replace k0 := Blk.later hb (by repeat first | exact k0 | apply Blk.alloc); clear a0 b0 y0
  replace hBw : Below w.heap.size w w6 := belowThru (by repeat first | exact hBw | apply belowAlloc) hb
  obtain ⟨a0, b0⟩ := k0.read; have y0 := k0.lt
  have hzw6 := hBw.size; clear hb
  go_wp2_with fail
  refine (H6.out _).mono ?_
  rintro e w7 ⟨rfl, hb⟩
  replace k0 := Blk.later hb (by repeat first | exact k0 | apply Blk.alloc); clear a0 b0 y0
  replace hBw : Below w.heap.size w w7 := belowThru (by repeat first | exact hBw | apply belowAlloc) hb
  obtain ⟨a0, b0⟩ := k0.read; have y0 := k0.lt
  have hzw7 := hBw.size; clear hb
  go_wp2_with fail
  obtain ⟨Wp, rfl⟩ : ∃ Wp, Wp = w7 := ⟨_, rfl⟩
  clear a0 b0 y0; have y0 := k0.lt
  go_region_held3 (fun w' => (Blk w' (w.heap.size) #[.int .i64 s, .int .i64 p, .int .i64 g, .int .i64 l] 26 ∧ (∀ i : Nat, w'.cell? ⟨w.heap.size, i, none⟩ = (#[.int .i64 s, .int .i64 p, .int .i64 g, .int .i64 l] : Array Value)[i]?)) ∧ Below Wp.heap.size Wp w')
    (((first | (apply hold1; (focus assumption); intro p0 pB) | skip); refine ⟨Blk.full ?_, ?_⟩; all_goals (first | ((repeat' (first | (with_reducible assumption) | ((with_reducible refine Blk.new ?_); first | rfl | (simp; done)) | (with_reducible refine Blk.later (by assumption) ?_) | (with_reducible refine Blk.alloc ?_) | (with_reducible refine Blk.drewN ?_) | (with_reducible refine Blk.drew ?_) | (with_reducible refine Blk.other ?_ (by first | omega | (simp; done) | (simp; omega))))); done) | ((repeat' (first | (with_reducible exact Below.refl _ _) | (with_reducible assumption) | (with_reducible refine belowThru ?_ (by assumption)) | (with_reducible refine belowAlloc ?_) | (with_reducible refine Below.setCell ?_ (by first | omega | (simp; done) | (simp; omega)) _) | (with_reducible refine Below.drew ?_) | (with_reducible refine below_drewN ?_ _))); done) | exact Below.refl _ _)))
    (first
    | (go_at_call 26; (with_reducible refine (H7.out _).mono ?_); rintro e w1 ⟨rfl, hb⟩)
    | (go_at_call 33; (with_reducible refine (H8.out _).mono ?_); rintro e w1 ⟨rfl, hb⟩))
  all_goals
    apply hold1; (focus assumption); intro p0 pB
    go_wp2_with fail
    go_ret
    exact ⟨rfl, belowThru hBw pB⟩
theorem windows_true (s p g l d n : Int) (w : World) :
    Calls Try.prog 4 #[.agg #[.int .i64 s, .int .i64 p, .int .i64 g, .int .i64 l], .int .i64 d, .int .i64 n] w fun e w' => e = .returned (.bool true) ∧ Below w.heap.size w w' := by
  have hs := slow_any s p g l
  by_cases h : okB s p g l ∧ 100000 < laB s p l g - fiB s p g
  · rw [decide_eq_true h] at hs
    exact windows_slow s p g l d n w hs
  · rw [decide_eq_false h] at hs
    exact windows_walk s p g l d n _ _ _ _ _ _ _ _ _ w hs (window_any s p g l d) (rwindow_any s p g l d) (reach_any s p g l n) (rreach_any s p g l n) (clear_any s p g l) (rclear_any s p g l) (ckB_any s p g l) (rckB_any s p g l)
end Go.Proofs.Ytbcnoklaaigclaa
