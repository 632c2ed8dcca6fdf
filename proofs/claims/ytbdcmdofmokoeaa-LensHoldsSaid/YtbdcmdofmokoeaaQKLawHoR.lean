/-
  Layer 4: the document's own words on views: valid ones, fulfilled ones, views of one tangent.
-/
import Derived.StillTailTactics
import Derived.Deep.RegionHeld3
import Derived.Test.YtbdcmdofmokoeaaQKLawTiM
import Derived.Test.YtbdcmdofmokoeaaQKLawAdd2
namespace Go.Proofs.Ytbdcmdofmokoeaa
open Go.RowKit Go.Shelf
set_option linter.unusedVariables false
set_option linter.unusedSimpArgs false

set_option maxRecDepth 100000 in
set_option maxHeartbeats 16000000 in
theorem vview_0 (X Z lo hi : Int) (w : World) (H0 : Hid (∀ W : World, Calls Try.prog 71 #[.int .i64 X, .int .i64 (-1000), .int .i64 1000] W fun e W' => e = .returned (.bool false) ∧ Below W.heap.size W W')) :
    Calls Try.prog 42 #[.agg #[.int .i64 X, .int .i64 Z, .int .i64 lo, .int .i64 hi]] w fun e w' => e = .returned (.bool false) ∧ Below w.heap.size w w' := by
  go_enter Try.func42, Try.ntmps42
  go_wp2_with fail
  refine (H0.out _).mono ?_
  rintro e w1 ⟨rfl, hb⟩
  have kn0 : Blk w1 (w.heap.size) #[.int .i64 X, .int .i64 Z, .int .i64 lo, .int .i64 hi] 45 := Blk.later hb (by (repeat' (first | (with_reducible assumption) | (with_reducible refine Blk.set2 ?_) | ((with_reducible refine Blk.new ?_); first | rfl | (simp; done)) | (with_reducible refine Blk.later (by assumption) ?_) | (with_reducible refine Blk.alloc ?_) | (with_reducible refine Blk.drewN ?_) | (with_reducible refine Blk.drew ?_) | (with_reducible refine Blk.other ?_ (by first | omega | (simp; done) | (simp; omega))))))
  have k0 := kn0; clear kn0; obtain ⟨a0, b0⟩ := k0.read; have y0 := k0.lt
  have hBw : Below w.heap.size w w1 := by (repeat' (first | (with_reducible exact Below.refl _ _) | (with_reducible assumption) | (with_reducible refine belowThru ?_ (by assumption)) | (with_reducible refine belowAlloc ?_) | (with_reducible refine Below.setCell ?_ (by first | omega | (simp; done) | (simp; omega)) _) | (with_reducible refine Below.drew ?_) | (with_reducible refine below_drewN ?_ _)))
  have hzw1 := hBw.size
  clear hb
  go_wp2_with fail
  go_ret
  exact ⟨rfl, by (repeat' (first | (with_reducible exact Below.refl _ _) | (with_reducible assumption) | (with_reducible refine belowThru ?_ (by assumption)) | (with_reducible refine belowAlloc ?_) | (with_reducible refine Below.setCell ?_ (by first | omega | (simp; done) | (simp; omega)) _) | (with_reducible refine Below.drew ?_) | (with_reducible refine below_drewN ?_ _)))⟩
set_option maxRecDepth 100000 in
set_option maxHeartbeats 16000000 in
theorem vview_1 (X Z lo hi : Int) (w : World) (H0 : Hid (∀ W : World, Calls Try.prog 71 #[.int .i64 X, .int .i64 (-1000), .int .i64 1000] W fun e W' => e = .returned (.bool true) ∧ Below W.heap.size W W')) (H1 : Hid (∀ W : World, Calls Try.prog 71 #[.int .i64 Z, .int .i64 1, .int .i64 1000] W fun e W' => e = .returned (.bool false) ∧ Below W.heap.size W W')) :
    Calls Try.prog 42 #[.agg #[.int .i64 X, .int .i64 Z, .int .i64 lo, .int .i64 hi]] w fun e w' => e = .returned (.bool false) ∧ Below w.heap.size w w' := by
  go_enter Try.func42, Try.ntmps42
  go_wp2_with fail
  refine (H0.out _).mono ?_
  rintro e w1 ⟨rfl, hb⟩
  have kn0 : Blk w1 (w.heap.size) #[.int .i64 X, .int .i64 Z, .int .i64 lo, .int .i64 hi] 45 := Blk.later hb (by (repeat' (first | (with_reducible assumption) | (with_reducible refine Blk.set2 ?_) | ((with_reducible refine Blk.new ?_); first | rfl | (simp; done)) | (with_reducible refine Blk.later (by assumption) ?_) | (with_reducible refine Blk.alloc ?_) | (with_reducible refine Blk.drewN ?_) | (with_reducible refine Blk.drew ?_) | (with_reducible refine Blk.other ?_ (by first | omega | (simp; done) | (simp; omega))))))
  have k0 := kn0; clear kn0; obtain ⟨a0, b0⟩ := k0.read; have y0 := k0.lt
  have hBw : Below w.heap.size w w1 := by (repeat' (first | (with_reducible exact Below.refl _ _) | (with_reducible assumption) | (with_reducible refine belowThru ?_ (by assumption)) | (with_reducible refine belowAlloc ?_) | (with_reducible refine Below.setCell ?_ (by first | omega | (simp; done) | (simp; omega)) _) | (with_reducible refine Below.drew ?_) | (with_reducible refine below_drewN ?_ _)))
  have hzw1 := hBw.size
  clear hb
  go_wp2_with fail
  refine (H1.out _).mono ?_
  rintro e w2 ⟨rfl, hb⟩
  have kn0 : Blk w2 (w.heap.size) #[.int .i64 X, .int .i64 Z, .int .i64 lo, .int .i64 hi] 45 := Blk.later hb (by (repeat' (first | (with_reducible assumption) | (with_reducible refine Blk.set2 ?_) | ((with_reducible refine Blk.new ?_); first | rfl | (simp; done)) | (with_reducible refine Blk.later (by assumption) ?_) | (with_reducible refine Blk.alloc ?_) | (with_reducible refine Blk.drewN ?_) | (with_reducible refine Blk.drew ?_) | (with_reducible refine Blk.other ?_ (by first | omega | (simp; done) | (simp; omega))))))
  clear k0 a0 b0 y0
  have k0 := kn0; clear kn0; obtain ⟨a0, b0⟩ := k0.read; have y0 := k0.lt
  replace hBw : Below w.heap.size w w2 := belowThru (by (repeat' (first | (with_reducible exact Below.refl _ _) | (with_reducible assumption) | (with_reducible refine belowThru ?_ (by assumption)) | (with_reducible refine belowAlloc ?_) | (with_reducible refine Below.setCell ?_ (by first | omega | (simp; done) | (simp; omega)) _) | (with_reducible refine Below.drew ?_) | (with_reducible refine below_drewN ?_ _)))) hb
  have hzw2 := hBw.size
  clear hb
  go_wp2_with fail
  go_ret
  exact ⟨rfl, by (repeat' (first | (with_reducible exact Below.refl _ _) | (with_reducible assumption) | (with_reducible refine belowThru ?_ (by assumption)) | (with_reducible refine belowAlloc ?_) | (with_reducible refine Below.setCell ?_ (by first | omega | (simp; done) | (simp; omega)) _) | (with_reducible refine Below.drew ?_) | (with_reducible refine below_drewN ?_ _)))⟩
set_option maxRecDepth 100000 in
set_option maxHeartbeats 16000000 in
theorem vview_2 (X Z lo hi : Int) (w : World) (H0 : Hid (∀ W : World, Calls Try.prog 71 #[.int .i64 X, .int .i64 (-1000), .int .i64 1000] W fun e W' => e = .returned (.bool true) ∧ Below W.heap.size W W')) (H1 : Hid (∀ W : World, Calls Try.prog 71 #[.int .i64 Z, .int .i64 1, .int .i64 1000] W fun e W' => e = .returned (.bool true) ∧ Below W.heap.size W W')) (H2 : Hid (∀ W : World, Calls Try.prog 71 #[.int .i64 lo, .int .i64 (-4096), .int .i64 4096] W fun e W' => e = .returned (.bool false) ∧ Below W.heap.size W W')) :
    Calls Try.prog 42 #[.agg #[.int .i64 X, .int .i64 Z, .int .i64 lo, .int .i64 hi]] w fun e w' => e = .returned (.bool false) ∧ Below w.heap.size w w' := by
  go_enter Try.func42, Try.ntmps42
  go_wp2_with fail
  refine (H0.out _).mono ?_
  rintro e w1 ⟨rfl, hb⟩
  have kn0 : Blk w1 (w.heap.size) #[.int .i64 X, .int .i64 Z, .int .i64 lo, .int .i64 hi] 45 := Blk.later hb (by (repeat' (first | (with_reducible assumption) | (with_reducible refine Blk.set2 ?_) | ((with_reducible refine Blk.new ?_); first | rfl | (simp; done)) | (with_reducible refine Blk.later (by assumption) ?_) | (with_reducible refine Blk.alloc ?_) | (with_reducible refine Blk.drewN ?_) | (with_reducible refine Blk.drew ?_) | (with_reducible refine Blk.other ?_ (by first | omega | (simp; done) | (simp; omega))))))
  have k0 := kn0; clear kn0; obtain ⟨a0, b0⟩ := k0.read; have y0 := k0.lt
  have hBw : Below w.heap.size w w1 := by (repeat' (first | (with_reducible exact Below.refl _ _) | (with_reducible assumption) | (with_reducible refine belowThru ?_ (by assumption)) | (with_reducible refine belowAlloc ?_) | (with_reducible refine Below.setCell ?_ (by first | omega | (simp; done) | (simp; omega)) _) | (with_reducible refine Below.drew ?_) | (with_reducible refine below_drewN ?_ _)))
  have hzw1 := hBw.size
  clear hb
  go_wp2_with fail
  refine (H1.out _).mono ?_
  rintro e w2 ⟨rfl, hb⟩
  have kn0 : Blk w2 (w.heap.size) #[.int .i64 X, .int .i64 Z, .int .i64 lo, .int .i64 hi] 45 := Blk.later hb (by (repeat' (first | (with_reducible assumption) | (with_reducible refine Blk.set2 ?_) | ((with_reducible refine Blk.new ?_); first | rfl | (simp; done)) | (with_reducible refine Blk.later (by assumption) ?_) | (with_reducible refine Blk.alloc ?_) | (with_reducible refine Blk.drewN ?_) | (with_reducible refine Blk.drew ?_) | (with_reducible refine Blk.other ?_ (by first | omega | (simp; done) | (simp; omega))))))
  clear k0 a0 b0 y0
  have k0 := kn0; clear kn0; obtain ⟨a0, b0⟩ := k0.read; have y0 := k0.lt
  replace hBw : Below w.heap.size w w2 := belowThru (by (repeat' (first | (with_reducible exact Below.refl _ _) | (with_reducible assumption) | (with_reducible refine belowThru ?_ (by assumption)) | (with_reducible refine belowAlloc ?_) | (with_reducible refine Below.setCell ?_ (by first | omega | (simp; done) | (simp; omega)) _) | (with_reducible refine Below.drew ?_) | (with_reducible refine below_drewN ?_ _)))) hb
  have hzw2 := hBw.size
  clear hb
  go_wp2_with fail
  refine (H2.out _).mono ?_
  rintro e w3 ⟨rfl, hb⟩
  have kn0 : Blk w3 (w.heap.size) #[.int .i64 X, .int .i64 Z, .int .i64 lo, .int .i64 hi] 45 := Blk.later hb (by (repeat' (first | (with_reducible assumption) | (with_reducible refine Blk.set2 ?_) | ((with_reducible refine Blk.new ?_); first | rfl | (simp; done)) | (with_reducible refine Blk.later (by assumption) ?_) | (with_reducible refine Blk.alloc ?_) | (with_reducible refine Blk.drewN ?_) | (with_reducible refine Blk.drew ?_) | (with_reducible refine Blk.other ?_ (by first | omega | (simp; done) | (simp; omega))))))
  clear k0 a0 b0 y0
  have k0 := kn0; clear kn0; obtain ⟨a0, b0⟩ := k0.read; have y0 := k0.lt
  replace hBw : Below w.heap.size w w3 := belowThru (by (repeat' (first | (with_reducible exact Below.refl _ _) | (with_reducible assumption) | (with_reducible refine belowThru ?_ (by assumption)) | (with_reducible refine belowAlloc ?_) | (with_reducible refine Below.setCell ?_ (by first | omega | (simp; done) | (simp; omega)) _) | (with_reducible refine Below.drew ?_) | (with_reducible refine below_drewN ?_ _)))) hb
  have hzw3 := hBw.size
  clear hb
  go_wp2_with fail
  go_ret
  exact ⟨rfl, by (repeat' (first | (with_reducible exact Below.refl _ _) | (with_reducible assumption) | (with_reducible refine belowThru ?_ (by assumption)) | (with_reducible refine belowAlloc ?_) | (with_reducible refine Below.setCell ?_ (by first | omega | (simp; done) | (simp; omega)) _) | (with_reducible refine Below.drew ?_) | (with_reducible refine below_drewN ?_ _)))⟩
set_option maxRecDepth 100000 in
set_option maxHeartbeats 16000000 in
theorem vview_3 (X Z lo hi : Int) (w : World) (H0 : Hid (∀ W : World, Calls Try.prog 71 #[.int .i64 X, .int .i64 (-1000), .int .i64 1000] W fun e W' => e = .returned (.bool true) ∧ Below W.heap.size W W')) (H1 : Hid (∀ W : World, Calls Try.prog 71 #[.int .i64 Z, .int .i64 1, .int .i64 1000] W fun e W' => e = .returned (.bool true) ∧ Below W.heap.size W W')) (H2 : Hid (∀ W : World, Calls Try.prog 71 #[.int .i64 lo, .int .i64 (-4096), .int .i64 4096] W fun e W' => e = .returned (.bool true) ∧ Below W.heap.size W W')) (H3 : Hid (∀ W : World, Calls Try.prog 71 #[.int .i64 hi, .int .i64 lo, .int .i64 4096] W fun e W' => e = .returned (.bool false) ∧ Below W.heap.size W W')) :
    Calls Try.prog 42 #[.agg #[.int .i64 X, .int .i64 Z, .int .i64 lo, .int .i64 hi]] w fun e w' => e = .returned (.bool false) ∧ Below w.heap.size w w' := by
  go_enter Try.func42, Try.ntmps42
  go_wp2_with fail
  refine (H0.out _).mono ?_
  rintro e w1 ⟨rfl, hb⟩
  have kn0 : Blk w1 (w.heap.size) #[.int .i64 X, .int .i64 Z, .int .i64 lo, .int .i64 hi] 45 := Blk.later hb (by (repeat' (first | (with_reducible assumption) | (with_reducible refine Blk.set2 ?_) | ((with_reducible refine Blk.new ?_); first | rfl | (simp; done)) | (with_reducible refine Blk.later (by assumption) ?_) | (with_reducible refine Blk.alloc ?_) | (with_reducible refine Blk.drewN ?_) | (with_reducible refine Blk.drew ?_) | (with_reducible refine Blk.other ?_ (by first | omega | (simp; done) | (simp; omega))))))
  have k0 := kn0; clear kn0; obtain ⟨a0, b0⟩ := k0.read; have y0 := k0.lt
  have hBw : Below w.heap.size w w1 := by (repeat' (first | (with_reducible exact Below.refl _ _) | (with_reducible assumption) | (with_reducible refine belowThru ?_ (by assumption)) | (with_reducible refine belowAlloc ?_) | (with_reducible refine Below.setCell ?_ (by first | omega | (simp; done) | (simp; omega)) _) | (with_reducible refine Below.drew ?_) | (with_reducible refine below_drewN ?_ _)))
  have hzw1 := hBw.size
  clear hb
  go_wp2_with fail
  refine (H1.out _).mono ?_
  rintro e w2 ⟨rfl, hb⟩
  have kn0 : Blk w2 (w.heap.size) #[.int .i64 X, .int .i64 Z, .int .i64 lo, .int .i64 hi] 45 := Blk.later hb (by (repeat' (first | (with_reducible assumption) | (with_reducible refine Blk.set2 ?_) | ((with_reducible refine Blk.new ?_); first | rfl | (simp; done)) | (with_reducible refine Blk.later (by assumption) ?_) | (with_reducible refine Blk.alloc ?_) | (with_reducible refine Blk.drewN ?_) | (with_reducible refine Blk.drew ?_) | (with_reducible refine Blk.other ?_ (by first | omega | (simp; done) | (simp; omega))))))
  clear k0 a0 b0 y0
  have k0 := kn0; clear kn0; obtain ⟨a0, b0⟩ := k0.read; have y0 := k0.lt
  replace hBw : Below w.heap.size w w2 := belowThru (by (repeat' (first | (with_reducible exact Below.refl _ _) | (with_reducible assumption) | (with_reducible refine belowThru ?_ (by assumption)) | (with_reducible refine belowAlloc ?_) | (with_reducible refine Below.setCell ?_ (by first | omega | (simp; done) | (simp; omega)) _) | (with_reducible refine Below.drew ?_) | (with_reducible refine below_drewN ?_ _)))) hb
  have hzw2 := hBw.size
  clear hb
  go_wp2_with fail
  refine (H2.out _).mono ?_
  rintro e w3 ⟨rfl, hb⟩
  have kn0 : Blk w3 (w.heap.size) #[.int .i64 X, .int .i64 Z, .int .i64 lo, .int .i64 hi] 45 := Blk.later hb (by (repeat' (first | (with_reducible assumption) | (with_reducible refine Blk.set2 ?_) | ((with_reducible refine Blk.new ?_); first | rfl | (simp; done)) | (with_reducible refine Blk.later (by assumption) ?_) | (with_reducible refine Blk.alloc ?_) | (with_reducible refine Blk.drewN ?_) | (with_reducible refine Blk.drew ?_) | (with_reducible refine Blk.other ?_ (by first | omega | (simp; done) | (simp; omega))))))
  clear k0 a0 b0 y0
  have k0 := kn0; clear kn0; obtain ⟨a0, b0⟩ := k0.read; have y0 := k0.lt
  replace hBw : Below w.heap.size w w3 := belowThru (by (repeat' (first | (with_reducible exact Below.refl _ _) | (with_reducible assumption) | (with_reducible refine belowThru ?_ (by assumption)) | (with_reducible refine belowAlloc ?_) | (with_reducible refine Below.setCell ?_ (by first | omega | (simp; done) | (simp; omega)) _) | (with_reducible refine Below.drew ?_) | (with_reducible refine below_drewN ?_ _)))) hb
  have hzw3 := hBw.size
  clear hb
  go_wp2_with fail
  refine (H3.out _).mono ?_
  rintro e w4 ⟨rfl, hb⟩
  have kn0 : Blk w4 (w.heap.size) #[.int .i64 X, .int .i64 Z, .int .i64 lo, .int .i64 hi] 45 := Blk.later hb (by (repeat' (first | (with_reducible assumption) | (with_reducible refine Blk.set2 ?_) | ((with_reducible refine Blk.new ?_); first | rfl | (simp; done)) | (with_reducible refine Blk.later (by assumption) ?_) | (with_reducible refine Blk.alloc ?_) | (with_reducible refine Blk.drewN ?_) | (with_reducible refine Blk.drew ?_) | (with_reducible refine Blk.other ?_ (by first | omega | (simp; done) | (simp; omega))))))
  clear k0 a0 b0 y0
  have k0 := kn0; clear kn0; obtain ⟨a0, b0⟩ := k0.read; have y0 := k0.lt
  replace hBw : Below w.heap.size w w4 := belowThru (by (repeat' (first | (with_reducible exact Below.refl _ _) | (with_reducible assumption) | (with_reducible refine belowThru ?_ (by assumption)) | (with_reducible refine belowAlloc ?_) | (with_reducible refine Below.setCell ?_ (by first | omega | (simp; done) | (simp; omega)) _) | (with_reducible refine Below.drew ?_) | (with_reducible refine below_drewN ?_ _)))) hb
  have hzw4 := hBw.size
  clear hb
  go_wp2_with fail
  go_ret
  exact ⟨rfl, by (repeat' (first | (with_reducible exact Below.refl _ _) | (with_reducible assumption) | (with_reducible refine belowThru ?_ (by assumption)) | (with_reducible refine belowAlloc ?_) | (with_reducible refine Below.setCell ?_ (by first | omega | (simp; done) | (simp; omega)) _) | (with_reducible refine Below.drew ?_) | (with_reducible refine below_drewN ?_ _)))⟩
set_option maxRecDepth 100000 in
set_option maxHeartbeats 16000000 in
theorem vview_4 (X Z lo hi : Int) (w : World) (H0 : Hid (∀ W : World, Calls Try.prog 71 #[.int .i64 X, .int .i64 (-1000), .int .i64 1000] W fun e W' => e = .returned (.bool true) ∧ Below W.heap.size W W')) (H1 : Hid (∀ W : World, Calls Try.prog 71 #[.int .i64 Z, .int .i64 1, .int .i64 1000] W fun e W' => e = .returned (.bool true) ∧ Below W.heap.size W W')) (H2 : Hid (∀ W : World, Calls Try.prog 71 #[.int .i64 lo, .int .i64 (-4096), .int .i64 4096] W fun e W' => e = .returned (.bool true) ∧ Below W.heap.size W W')) (H3 : Hid (∀ W : World, Calls Try.prog 71 #[.int .i64 hi, .int .i64 lo, .int .i64 4096] W fun e W' => e = .returned (.bool true) ∧ Below W.heap.size W W')) :
    Calls Try.prog 42 #[.agg #[.int .i64 X, .int .i64 Z, .int .i64 lo, .int .i64 hi]] w fun e w' => e = .returned (.bool true) ∧ Below w.heap.size w w' := by
  go_enter Try.func42, Try.ntmps42
  go_wp2_with fail
  refine (H0.out _).mono ?_
  rintro e w1 ⟨rfl, hb⟩
  have kn0 : Blk w1 (w.heap.size) #[.int .i64 X, .int .i64 Z, .int .i64 lo, .int .i64 hi] 45 := Blk.later hb (by (repeat' (first | (with_reducible assumption) | (with_reducible refine Blk.set2 ?_) | ((with_reducible refine Blk.new ?_); first | rfl | (simp; done)) | (with_reducible refine Blk.later (by assumption) ?_) | (with_reducible refine Blk.alloc ?_) | (with_reducible refine Blk.drewN ?_) | (with_reducible refine Blk.drew ?_) | (with_reducible refine Blk.other ?_ (by first | omega | (simp; done) | (simp; omega))))))
  have k0 := kn0; clear kn0; obtain ⟨a0, b0⟩ := k0.read; have y0 := k0.lt
  have hBw : Below w.heap.size w w1 := by (repeat' (first | (with_reducible exact Below.refl _ _) | (with_reducible assumption) | (with_reducible refine belowThru ?_ (by assumption)) | (with_reducible refine belowAlloc ?_) | (with_reducible refine Below.setCell ?_ (by first | omega | (simp; done) | (simp; omega)) _) | (with_reducible refine Below.drew ?_) | (with_reducible refine below_drewN ?_ _)))
  have hzw1 := hBw.size
  clear hb
  go_wp2_with fail
  refine (H1.out _).mono ?_
  rintro e w2 ⟨rfl, hb⟩
  have kn0 : Blk w2 (w.heap.size) #[.int .i64 X, .int .i64 Z, .int .i64 lo, .int .i64 hi] 45 := Blk.later hb (by (repeat' (first | (with_reducible assumption) | (with_reducible refine Blk.set2 ?_) | ((with_reducible refine Blk.new ?_); first | rfl | (simp; done)) | (with_reducible refine Blk.later (by assumption) ?_) | (with_reducible refine Blk.alloc ?_) | (with_reducible refine Blk.drewN ?_) | (with_reducible refine Blk.drew ?_) | (with_reducible refine Blk.other ?_ (by first | omega | (simp; done) | (simp; omega))))))
  clear k0 a0 b0 y0
  have k0 := kn0; clear kn0; obtain ⟨a0, b0⟩ := k0.read; have y0 := k0.lt
  replace hBw : Below w.heap.size w w2 := belowThru (by (repeat' (first | (with_reducible exact Below.refl _ _) | (with_reducible assumption) | (with_reducible refine belowThru ?_ (by assumption)) | (with_reducible refine belowAlloc ?_) | (with_reducible refine Below.setCell ?_ (by first | omega | (simp; done) | (simp; omega)) _) | (with_reducible refine Below.drew ?_) | (with_reducible refine below_drewN ?_ _)))) hb
  have hzw2 := hBw.size
  clear hb
  go_wp2_with fail
  refine (H2.out _).mono ?_
  rintro e w3 ⟨rfl, hb⟩
  have kn0 : Blk w3 (w.heap.size) #[.int .i64 X, .int .i64 Z, .int .i64 lo, .int .i64 hi] 45 := Blk.later hb (by (repeat' (first | (with_reducible assumption) | (with_reducible refine Blk.set2 ?_) | ((with_reducible refine Blk.new ?_); first | rfl | (simp; done)) | (with_reducible refine Blk.later (by assumption) ?_) | (with_reducible refine Blk.alloc ?_) | (with_reducible refine Blk.drewN ?_) | (with_reducible refine Blk.drew ?_) | (with_reducible refine Blk.other ?_ (by first | omega | (simp; done) | (simp; omega))))))
  clear k0 a0 b0 y0
  have k0 := kn0; clear kn0; obtain ⟨a0, b0⟩ := k0.read; have y0 := k0.lt
  replace hBw : Below w.heap.size w w3 := belowThru (by (repeat' (first | (with_reducible exact Below.refl _ _) | (with_reducible assumption) | (with_reducible refine belowThru ?_ (by assumption)) | (with_reducible refine belowAlloc ?_) | (with_reducible refine Below.setCell ?_ (by first | omega | (simp; done) | (simp; omega)) _) | (with_reducible refine Below.drew ?_) | (with_reducible refine below_drewN ?_ _)))) hb
  have hzw3 := hBw.size
  clear hb
  go_wp2_with fail
  refine (H3.out _).mono ?_
  rintro e w4 ⟨rfl, hb⟩
  have kn0 : Blk w4 (w.heap.size) #[.int .i64 X, .int .i64 Z, .int .i64 lo, .int .i64 hi] 45 := Blk.later hb (by (repeat' (first | (with_reducible assumption) | (with_reducible refine Blk.set2 ?_) | ((with_reducible refine Blk.new ?_); first | rfl | (simp; done)) | (with_reducible refine Blk.later (by assumption) ?_) | (with_reducible refine Blk.alloc ?_) | (with_reducible refine Blk.drewN ?_) | (with_reducible refine Blk.drew ?_) | (with_reducible refine Blk.other ?_ (by first | omega | (simp; done) | (simp; omega))))))
  clear k0 a0 b0 y0
  have k0 := kn0; clear kn0; obtain ⟨a0, b0⟩ := k0.read; have y0 := k0.lt
  replace hBw : Below w.heap.size w w4 := belowThru (by (repeat' (first | (with_reducible exact Below.refl _ _) | (with_reducible assumption) | (with_reducible refine belowThru ?_ (by assumption)) | (with_reducible refine belowAlloc ?_) | (with_reducible refine Below.setCell ?_ (by first | omega | (simp; done) | (simp; omega)) _) | (with_reducible refine Below.drew ?_) | (with_reducible refine below_drewN ?_ _)))) hb
  have hzw4 := hBw.size
  clear hb
  go_wp2_with fail
  go_ret
  exact ⟨rfl, by (repeat' (first | (with_reducible exact Below.refl _ _) | (with_reducible assumption) | (with_reducible refine belowThru ?_ (by assumption)) | (with_reducible refine belowAlloc ?_) | (with_reducible refine Below.setCell ?_ (by first | omega | (simp; done) | (simp; omega)) _) | (with_reducible refine Below.drew ?_) | (with_reducible refine below_drewN ?_ _)))⟩
theorem vview_any (v : Vw) (w : World) : Calls Try.prog 42 #[.agg #[.int .i64 v.1, .int .i64 v.2.1, .int .i64 v.2.2.1, .int .i64 v.2.2.2]] w fun e w' => e = .returned (.bool (decide (InV v))) ∧ Below w.heap.size w w' := by
  obtain ⟨X, Z, lo, hi⟩ := v
  dsimp only
  have no : ∀ n a b : Int, ¬ (a ≤ n ∧ n ≤ b) → ∀ W : World, Calls Try.prog 71 #[.int .i64 n, .int .i64 a, .int .i64 b] W fun e W' => e = .returned (.bool false) ∧ Below W.heap.size W W' := fun n a b h W => (rwithin_no n a b h W).mono fun e W' ⟨h1, h2⟩ => ⟨h1, h2 ▸ Below.refl _ _⟩
  have yes : ∀ n a b : Int, (a ≤ n ∧ n ≤ b) → ∀ W : World, Calls Try.prog 71 #[.int .i64 n, .int .i64 a, .int .i64 b] W fun e W' => e = .returned (.bool true) ∧ Below W.heap.size W W' := fun n a b h W => (rwithin_yes n a b h.1 h.2 W).mono fun e W' ⟨h1, h2⟩ => ⟨h1, h2 ▸ Below.refl _ _⟩
  by_cases h1 : -1000 ≤ X ∧ X ≤ 1000
  · by_cases h2 : 1 ≤ Z ∧ Z ≤ 1000
    · by_cases h3 : -4096 ≤ lo ∧ lo ≤ 4096
      · by_cases h4 : lo ≤ hi ∧ hi ≤ 4096
        · rw [decide_eq_true (show InV (X, Z, lo, hi) from ⟨⟨h1, h2⟩, ⟨h3, by dsimp only; omega, by dsimp only; omega⟩, h4.1⟩)]
          exact vview_4 X Z lo hi w (Lib.hid (yes _ _ _ h1)) (Lib.hid (yes _ _ _ h2)) (Lib.hid (yes _ _ _ h3)) (Lib.hid (yes _ _ _ h4))
        · rw [decide_eq_false (show ¬ InV (X, Z, lo, hi) from fun h => h4 ⟨h.2.2, h.2.1.2.2⟩)]
          exact vview_3 X Z lo hi w (Lib.hid (yes _ _ _ h1)) (Lib.hid (yes _ _ _ h2)) (Lib.hid (yes _ _ _ h3)) (Lib.hid (no _ _ _ h4))
      · rw [decide_eq_false (show ¬ InV (X, Z, lo, hi) from fun h => h3 h.2.1.1)]
        exact vview_2 X Z lo hi w (Lib.hid (yes _ _ _ h1)) (Lib.hid (yes _ _ _ h2)) (Lib.hid (no _ _ _ h3))
    · rw [decide_eq_false (show ¬ InV (X, Z, lo, hi) from fun h => h2 h.1.2)]
      exact vview_1 X Z lo hi w (Lib.hid (yes _ _ _ h1)) (Lib.hid (no _ _ _ h2))
  · rw [decide_eq_false (show ¬ InV (X, Z, lo, hi) from fun h => h1 h.1.1)]
    exact vview_0 X Z lo hi w (Lib.hid (no _ _ _ h1))
/-- A pair fulfils a view. -/
def FulI (N M D : Int) (v : Vw) : Prop := v.2.2.1 * D * v.2.1 ≤ N * v.1 + M * v.2.1 ∧ N * v.1 + M * v.2.1 ≤ v.2.2.2 * D * v.2.1
instance (N M D : Int) (v : Vw) : Decidable (FulI N M D v) := inferInstanceAs (Decidable (_ ∧ _))
/-- Numbers so small that nothing overflows. -/
def SmP (N M D : Int) : Prop := (-1099511627776 ≤ N ∧ N ≤ 1099511627776) ∧ (-1099511627776 ≤ M ∧ M ≤ 1099511627776) ∧ 1 ≤ D ∧ D ≤ 1099511627776
set_option maxRecDepth 100000 in
set_option maxHeartbeats 16000000 in
theorem ful_0 (N M D X Z lo hi : Int) (w : World) (w1 : IntKind.i64.wrap (N * X) = N * X) (w2 : IntKind.i64.wrap (M * Z) = M * Z) (w3 : IntKind.i64.wrap (N * X + M * Z) = N * X + M * Z) (w4 : IntKind.i64.wrap (lo * D) = lo * D) (w5 : IntKind.i64.wrap (lo * D * Z) = lo * D * Z) (w6 : IntKind.i64.wrap (hi * D) = hi * D) (w7 : IntKind.i64.wrap (hi * D * Z) = hi * D * Z) (d1 : decide (lo * D * Z ≤ N * X + M * Z) = false) :
    Calls Try.prog 80 #[.agg #[.int .i64 N, .int .i64 M, .int .i64 D], .agg #[.int .i64 X, .int .i64 Z, .int .i64 lo, .int .i64 hi]] w fun e w' => e = .returned (.bool false) ∧ Below w.heap.size w w' := by
  go_enter Try.func80, Try.ntmps80
  go_wp2
  go_ret
  exact ⟨rfl, by (repeat' (first | (with_reducible exact Below.refl _ _) | (with_reducible assumption) | (with_reducible refine belowThru ?_ (by assumption)) | (with_reducible refine belowAlloc ?_) | (with_reducible refine Below.setCell ?_ (by first | omega | (simp; done) | (simp; omega)) _) | (with_reducible refine Below.drew ?_) | (with_reducible refine below_drewN ?_ _)))⟩
set_option maxRecDepth 100000 in
set_option maxHeartbeats 16000000 in
theorem ful_1 (N M D X Z lo hi : Int) (w : World) (w1 : IntKind.i64.wrap (N * X) = N * X) (w2 : IntKind.i64.wrap (M * Z) = M * Z) (w3 : IntKind.i64.wrap (N * X + M * Z) = N * X + M * Z) (w4 : IntKind.i64.wrap (lo * D) = lo * D) (w5 : IntKind.i64.wrap (lo * D * Z) = lo * D * Z) (w6 : IntKind.i64.wrap (hi * D) = hi * D) (w7 : IntKind.i64.wrap (hi * D * Z) = hi * D * Z) (d1 : decide (lo * D * Z ≤ N * X + M * Z) = true) (d2 : decide (N * X + M * Z ≤ hi * D * Z) = false) :
    Calls Try.prog 80 #[.agg #[.int .i64 N, .int .i64 M, .int .i64 D], .agg #[.int .i64 X, .int .i64 Z, .int .i64 lo, .int .i64 hi]] w fun e w' => e = .returned (.bool false) ∧ Below w.heap.size w w' := by
  go_enter Try.func80, Try.ntmps80
  go_wp2
  go_ret
  exact ⟨rfl, by (repeat' (first | (with_reducible exact Below.refl _ _) | (with_reducible assumption) | (with_reducible refine belowThru ?_ (by assumption)) | (with_reducible refine belowAlloc ?_) | (with_reducible refine Below.setCell ?_ (by first | omega | (simp; done) | (simp; omega)) _) | (with_reducible refine Below.drew ?_) | (with_reducible refine below_drewN ?_ _)))⟩
set_option maxRecDepth 100000 in
set_option maxHeartbeats 16000000 in
theorem ful_2 (N M D X Z lo hi : Int) (w : World) (w1 : IntKind.i64.wrap (N * X) = N * X) (w2 : IntKind.i64.wrap (M * Z) = M * Z) (w3 : IntKind.i64.wrap (N * X + M * Z) = N * X + M * Z) (w4 : IntKind.i64.wrap (lo * D) = lo * D) (w5 : IntKind.i64.wrap (lo * D * Z) = lo * D * Z) (w6 : IntKind.i64.wrap (hi * D) = hi * D) (w7 : IntKind.i64.wrap (hi * D * Z) = hi * D * Z) (d1 : decide (lo * D * Z ≤ N * X + M * Z) = true) (d2 : decide (N * X + M * Z ≤ hi * D * Z) = true) :
    Calls Try.prog 80 #[.agg #[.int .i64 N, .int .i64 M, .int .i64 D], .agg #[.int .i64 X, .int .i64 Z, .int .i64 lo, .int .i64 hi]] w fun e w' => e = .returned (.bool true) ∧ Below w.heap.size w w' := by
  go_enter Try.func80, Try.ntmps80
  go_wp2
  go_ret
  exact ⟨rfl, by (repeat' (first | (with_reducible exact Below.refl _ _) | (with_reducible assumption) | (with_reducible refine belowThru ?_ (by assumption)) | (with_reducible refine belowAlloc ?_) | (with_reducible refine Below.setCell ?_ (by first | omega | (simp; done) | (simp; omega)) _) | (with_reducible refine Below.drew ?_) | (with_reducible refine below_drewN ?_ _)))⟩
theorem ful_any {N M D : Int} {v : Vw} (hp : SmP N M D) (hv : InV v) (w : World) : Calls Try.prog 80 #[.agg #[.int .i64 N, .int .i64 M, .int .i64 D], .agg #[.int .i64 v.1, .int .i64 v.2.1, .int .i64 v.2.2.1, .int .i64 v.2.2.2]] w fun e w' => e = .returned (.bool (decide (FulI N M D v))) ∧ Below w.heap.size w w' := by
  obtain ⟨X, Z, lo, hi⟩ := v
  obtain ⟨hN, hM, hD⟩ := hp
  obtain ⟨⟨hX, hZ⟩, ⟨hlo, hhi⟩, hle⟩ := hv
  dsimp only at *
  have p1 := mul_bound N X 1099511627776 1000 (by omega) (by omega) (by omega) (by omega)
  have p2 := mul_bound M Z 1099511627776 1000 (by omega) (by omega) (by omega) (by omega)
  have p3 := mul_bound lo D 4096 1099511627776 (by omega) (by omega) (by omega) (by omega)
  have p4 := mul_bound hi D 4096 1099511627776 (by omega) (by omega) (by omega) (by omega)
  have p5 := mul_bound (lo * D) Z 4503599627370496 1000 (by omega) (by omega) (by omega) (by omega)
  have p6 := mul_bound (hi * D) Z 4503599627370496 1000 (by omega) (by omega) (by omega) (by omega)
  have w1 := wr64 (N * X) (by omega)
  have w2 := wr64 (M * Z) (by omega)
  have w3 := wr64 (N * X + M * Z) (by omega)
  have w4 := wr64 (lo * D) (by omega)
  have w5 := wr64 (lo * D * Z) (by omega)
  have w6 := wr64 (hi * D) (by omega)
  have w7 := wr64 (hi * D * Z) (by omega)
  by_cases d1 : lo * D * Z ≤ N * X + M * Z
  · by_cases d2 : N * X + M * Z ≤ hi * D * Z
    · rw [decide_eq_true (show FulI N M D (X, Z, lo, hi) from ⟨d1, d2⟩)]; exact ful_2 N M D X Z lo hi w w1 w2 w3 w4 w5 w6 w7 (decide_eq_true d1) (decide_eq_true d2)
    · rw [decide_eq_false (show ¬ FulI N M D (X, Z, lo, hi) from fun h => d2 h.2)]; exact ful_1 N M D X Z lo hi w w1 w2 w3 w4 w5 w6 w7 (decide_eq_true d1) (decide_eq_false d2)
  · rw [decide_eq_false (show ¬ FulI N M D (X, Z, lo, hi) from fun h => d1 h.1)]; exact ful_0 N M D X Z lo hi w w1 w2 w3 w4 w5 w6 w7 (decide_eq_false d1)
theorem alk_tr {X Z U V A B : Int} (h0 : 1 ≤ B ∧ B ≤ 1000) (h1 : X * B = A * Z) (h2 : U * B = A * V) : X * V = U * Z := by
  have e : (X * V) * B = (U * Z) * B := by
    have a : (X * V) * B = (X * B) * V := by rw [Int.mul_assoc, Int.mul_comm V, ← Int.mul_assoc]
    have b : (U * Z) * B = (U * B) * Z := by rw [Int.mul_assoc, Int.mul_comm Z, ← Int.mul_assoc]
    rw [a, b, h1, h2, Int.mul_assoc, Int.mul_assoc, Int.mul_comm Z]
  exact Int.eq_of_mul_eq_mul_right (by omega) e
set_option maxRecDepth 100000 in
set_option maxHeartbeats 16000000 in
theorem all_any (N M D : Int) (a : Option Addr) (n c : Nat) (vs : List Vw) (hp : SmP N M D) (hn : n ≤ 12) (hV : ∀ v ∈ vs, InV v) (w : World) (hR : VRow w a n vs) : Calls Try.prog 43 #[.agg #[.int .i64 N, .int .i64 M, .int .i64 D], .slice a n c] w fun e w' => e = .returned (.bool (decide (∀ v ∈ vs, FulI N M D v))) ∧ Below w.heap.size w w' := by
  have HV := Lib.hid hV; have HR := Lib.hid hR; have HP := Lib.hid hp; have HN := Lib.hid hn
  have HLn : Hid (vs.length = n) := hR.1
  have hmx : Try.prog.follows .mixedOrders = true := by kernel_rfl
  clear hV hR hp hn
  obtain ⟨res, hres⟩ : ∃ res, decide (∀ v ∈ vs, FulI N M D v) = res := ⟨_, rfl⟩
  have HRes := Lib.hid hres
  rw [hres]
  clear hres
  go_enter Try.func43, Try.ntmps43
  go_wp2_with fail
  have k0 : Blk (w.alloc (.cells #[.int .i64 N, .int .i64 M, .int .i64 D] 75)) w.heap.size #[.int .i64 N, .int .i64 M, .int .i64 D] 75 := Blk.new rfl
  go_loopw [5] (fun i wr => ∃ k : Nat, k ≤ n ∧ i = .int .i64 k ∧ Hid (∀ (j : Nat) (v : Vw), j < k → vs[j]? = some v → FulI N M D v) ∧ Blk wr w.heap.size #[.int .i64 N, .int .i64 M, .int .i64 D] 75 ∧ Below w.heap.size w wr) (fun i _ => n - (intOf i).toNat)
  case atStart => exact ⟨0, Nat.zero_le _, rfl, (fun j v h => absurd h (by omega) : ∀ (j : Nat) (v : Vw), j < 0 → vs[j]? = some v → FulI N M D v), by (repeat' (first | (with_reducible assumption) | ((with_reducible refine Blk.new ?_); first | rfl | (simp; done)) | (with_reducible refine Blk.later (by assumption) ?_) | (with_reducible refine Blk.alloc ?_) | (with_reducible refine Blk.drewN ?_) | (with_reducible refine Blk.drew ?_) | (with_reducible refine Blk.other ?_ (by first | omega | (simp; done) | (simp; omega))))), by (repeat' (first | (with_reducible exact Below.refl _ _) | (with_reducible assumption) | (with_reducible refine belowThru ?_ (by assumption)) | (with_reducible refine belowAlloc ?_) | (with_reducible refine Below.setCell ?_ (by first | omega | (simp; done) | (simp; omega)) _) | (with_reducible refine Below.drew ?_) | (with_reducible refine below_drewN ?_ _)))⟩
  case round =>
    clear k0
    obtain ⟨k, hk, rfl, ht, k0, hB⟩ := hrel
    have hn12 := HN.out
    by_cases hlt : k < n
    · obtain ⟨bb, oo, X, Z, lo, hi, rfl, l1, h1, c1, d1, e1, f1⟩ := HR.out.at hlt
      have hv : InV (X, Z, lo, hi) := HV.out _ (List.mem_of_getElem? h1)
      have c1 := cell_later hB c1
      have d1 := cell_later hB d1
      have e1 := cell_later hB e1
      have f1 := cell_later hB f1
      obtain ⟨a0, b0⟩ := k0.read
      have y0 := k0.lt
      have q0 : (0 : Int) ≤ (k : Int) := by omega
      have q1 : (k : Int) < (n : Int) := by omega
      have HF : ∀ W : World, _ := fun W => ful_any HP.out hv W
      by_cases hf : FulI N M D (X, Z, lo, hi)
      · rw [decide_eq_true hf] at HF
        have ht' : Hid (∀ (j : Nat) (v : Vw), j < k + 1 → vs[j]? = some v → FulI N M D v) := fun j v hj hv => by
          rcases Nat.lt_or_ge j k with q | q
          · exact ht.out j v q hv
          · obtain rfl : j = k := by omega
            rw [h1] at hv; cases hv; exact hf
        have HF' := Lib.hid HF
        clear HF hf hv h1 ht
        go_wp2_with fail
        refine wp_region_held_drew (S := fun w' => (Blk w' w.heap.size #[.int .i64 N, .int .i64 M, .int .i64 D] 75 ∧ (∀ i : Nat, w'.cell? ⟨w.heap.size, i, none⟩ = (#[.int .i64 N, .int .i64 M, .int .i64 D] : Array Value)[i]?)) ∧ (w'.cell? ⟨bb, oo + k * 4, none⟩ = some (.int .i64 X) ∧ w'.cell? ⟨bb, oo + k * 4 + 1, none⟩ = some (.int .i64 Z) ∧ w'.cell? ⟨bb, oo + k * 4 + 2, none⟩ = some (.int .i64 lo) ∧ w'.cell? ⟨bb, oo + k * 4 + 3, none⟩ = some (.int .i64 hi)) ∧ Below wr.heap.size wr w') hmx ⟨k0.drew.full, ⟨c1, d1, e1, f1⟩, (Below.refl _ _).drew⟩ (fun hHeld => ?_)
        obtain ⟨Wd, hWd⟩ : ∃ Wd, wr.drew = Wd := ⟨_, rfl⟩
        rw [hWd] at hHeld ⊢
        clear hWd
        refine wpAnyH_take (i := 0) (v := ?_) rfl (by kernel_rfl) (by kernel_rfl) (by kernel_rfl) (fun _ _ _ h => h) (Or.inl ⟨by rfl, ?hT0⟩) (by assumption) ?_
        case hT0 => ((intro w hSw; (try dsimp only at hSw); go_simp); try (with_reducible rfl))
        try simp only [Act.put, List.setIfInBounds_toArray, List.set_cons_zero, List.set_cons_succ]
        refine wpAnyH_take (i := 1) (v := ?_) rfl (by kernel_rfl) (by kernel_rfl) (by kernel_rfl) (fun _ _ _ h => h) (Or.inl ⟨by rfl, ?hT1⟩) (by assumption) ?_
        case hT1 => ((intro w hSw; (try dsimp only at hSw); go_simp); try (with_reducible rfl))
        try simp only [Act.put, List.setIfInBounds_toArray, List.set_cons_zero, List.set_cons_succ]
        refine wpAnyH_take (i := 2) (v := ?_) rfl (by kernel_rfl) (by kernel_rfl) (by kernel_rfl) (fun _ _ _ h => h) (Or.inl ⟨by rfl, ?hT2⟩) (by assumption) ?_
        case hT2 => ((intro w hSw; (try dsimp only at hSw); go_simp); try (with_reducible rfl))
        try simp only [Act.put, List.setIfInBounds_toArray, List.set_cons_zero, List.set_cons_succ]
        refine wpAnyH_take (i := 3) (v := ?_) rfl (by kernel_rfl) (by kernel_rfl) (by kernel_rfl) (fun _ _ _ h => h) (Or.inl ⟨by rfl, ?hT3⟩) (by assumption) ?_
        case hT3 => ((intro w hSw; (try dsimp only at hSw); go_simp); try (with_reducible rfl))
        try simp only [Act.put, List.setIfInBounds_toArray, List.set_cons_zero, List.set_cons_succ]
        refine wpAnyH_take (i := 4) (v := ?_) rfl (by kernel_rfl) (by kernel_rfl) (by kernel_rfl) (fun _ _ _ h => h) (Or.inl ⟨by rfl, ?hT4⟩) (by assumption) ?_
        case hT4 => ((intro w hSw; (try dsimp only at hSw); go_simp); try (with_reducible rfl))
        try simp only [Act.put, List.setIfInBounds_toArray, List.set_cons_zero, List.set_cons_succ]
        refine wpAnyH_ready (rs := [5]) (by kernel_rfl) (by simp) ?_
        refine AllReadyH.cons rfl (fun K hK => ?_) AllReadyH.nil
        go_simp
        refine (HF'.out _).mono ?_
        rintro e w9 ⟨rfl, hb⟩
        have hS9 : (Blk w9 w.heap.size #[.int .i64 N, .int .i64 M, .int .i64 D] 75 ∧ (∀ i : Nat, w9.cell? ⟨w.heap.size, i, none⟩ = (#[.int .i64 N, .int .i64 M, .int .i64 D] : Array Value)[i]?)) ∧ (w9.cell? ⟨bb, oo + k * 4, none⟩ = some (.int .i64 X) ∧ w9.cell? ⟨bb, oo + k * 4 + 1, none⟩ = some (.int .i64 Z) ∧ w9.cell? ⟨bb, oo + k * 4 + 2, none⟩ = some (.int .i64 lo) ∧ w9.cell? ⟨bb, oo + k * 4 + 3, none⟩ = some (.int .i64 hi)) ∧ Below wr.heap.size wr w9 := ⟨(Blk.later hb hHeld.1.1).full, ⟨cell_later hb hHeld.2.1.1, cell_later hb hHeld.2.1.2.1, cell_later hb hHeld.2.1.2.2.1, cell_later hb hHeld.2.1.2.2.2⟩, belowThru hHeld.2.2 hb⟩
        clear hb
        try go_simp
        refine hK.out _ _ ?_ (fun hHeldN => ?_)
        · (try dsimp only); exact hS9
        clear hK K hHeld
        have hHeld := hHeldN
        clear hHeldN
        try simp only [Act.put, List.setIfInBounds_toArray, List.set_cons_zero, List.set_cons_succ]
        refine wpAnyH_take (i := 6) (v := ?_) rfl (by kernel_rfl) (by kernel_rfl) (by kernel_rfl) (fun _ _ _ h => h) (Or.inl ⟨by rfl, ?hT5⟩) (by assumption) ?_
        case hT5 => ((intro w hSw; (try dsimp only at hSw); go_simp); try (with_reducible rfl))
        try simp only [Act.put, List.setIfInBounds_toArray, List.set_cons_zero, List.set_cons_succ]
        refine wpAnyH_done (by kernel_rfl) ?_ _
        obtain ⟨⟨k1, -⟩, -, hB9⟩ := hS9
        clear hHeld
        go_wp2_with fail
        go_roundw
        case rel => exact ⟨k + 1, hlt, by go_num, ht', k1, belowThru hB hB9⟩
        case measure => simp [intOf]; omega
      · rw [decide_eq_false hf] at HF
        have hno : res = false := by rw [← HRes.out]; exact decide_eq_false fun h => hf (h _ (List.mem_of_getElem? h1))
        subst hno
        have HF' := Lib.hid HF
        clear HF hf hv h1 ht
        go_wp2_with fail
        refine wp_region_held_drew (S := fun w' => (Blk w' w.heap.size #[.int .i64 N, .int .i64 M, .int .i64 D] 75 ∧ (∀ i : Nat, w'.cell? ⟨w.heap.size, i, none⟩ = (#[.int .i64 N, .int .i64 M, .int .i64 D] : Array Value)[i]?)) ∧ (w'.cell? ⟨bb, oo + k * 4, none⟩ = some (.int .i64 X) ∧ w'.cell? ⟨bb, oo + k * 4 + 1, none⟩ = some (.int .i64 Z) ∧ w'.cell? ⟨bb, oo + k * 4 + 2, none⟩ = some (.int .i64 lo) ∧ w'.cell? ⟨bb, oo + k * 4 + 3, none⟩ = some (.int .i64 hi)) ∧ Below wr.heap.size wr w') hmx ⟨k0.drew.full, ⟨c1, d1, e1, f1⟩, (Below.refl _ _).drew⟩ (fun hHeld => ?_)
        obtain ⟨Wd, hWd⟩ : ∃ Wd, wr.drew = Wd := ⟨_, rfl⟩
        rw [hWd] at hHeld ⊢
        clear hWd
        refine wpAnyH_take (i := 0) (v := ?_) rfl (by kernel_rfl) (by kernel_rfl) (by kernel_rfl) (fun _ _ _ h => h) (Or.inl ⟨by rfl, ?hT6⟩) (by assumption) ?_
        case hT6 => ((intro w hSw; (try dsimp only at hSw); go_simp); try (with_reducible rfl))
        try simp only [Act.put, List.setIfInBounds_toArray, List.set_cons_zero, List.set_cons_succ]
        refine wpAnyH_take (i := 1) (v := ?_) rfl (by kernel_rfl) (by kernel_rfl) (by kernel_rfl) (fun _ _ _ h => h) (Or.inl ⟨by rfl, ?hT7⟩) (by assumption) ?_
        case hT7 => ((intro w hSw; (try dsimp only at hSw); go_simp); try (with_reducible rfl))
        try simp only [Act.put, List.setIfInBounds_toArray, List.set_cons_zero, List.set_cons_succ]
        refine wpAnyH_take (i := 2) (v := ?_) rfl (by kernel_rfl) (by kernel_rfl) (by kernel_rfl) (fun _ _ _ h => h) (Or.inl ⟨by rfl, ?hT8⟩) (by assumption) ?_
        case hT8 => ((intro w hSw; (try dsimp only at hSw); go_simp); try (with_reducible rfl))
        try simp only [Act.put, List.setIfInBounds_toArray, List.set_cons_zero, List.set_cons_succ]
        refine wpAnyH_take (i := 3) (v := ?_) rfl (by kernel_rfl) (by kernel_rfl) (by kernel_rfl) (fun _ _ _ h => h) (Or.inl ⟨by rfl, ?hT9⟩) (by assumption) ?_
        case hT9 => ((intro w hSw; (try dsimp only at hSw); go_simp); try (with_reducible rfl))
        try simp only [Act.put, List.setIfInBounds_toArray, List.set_cons_zero, List.set_cons_succ]
        refine wpAnyH_take (i := 4) (v := ?_) rfl (by kernel_rfl) (by kernel_rfl) (by kernel_rfl) (fun _ _ _ h => h) (Or.inl ⟨by rfl, ?hT10⟩) (by assumption) ?_
        case hT10 => ((intro w hSw; (try dsimp only at hSw); go_simp); try (with_reducible rfl))
        try simp only [Act.put, List.setIfInBounds_toArray, List.set_cons_zero, List.set_cons_succ]
        refine wpAnyH_ready (rs := [5]) (by kernel_rfl) (by simp) ?_
        refine AllReadyH.cons rfl (fun K hK => ?_) AllReadyH.nil
        go_simp
        refine (HF'.out _).mono ?_
        rintro e w9 ⟨rfl, hb⟩
        have hS9 : (Blk w9 w.heap.size #[.int .i64 N, .int .i64 M, .int .i64 D] 75 ∧ (∀ i : Nat, w9.cell? ⟨w.heap.size, i, none⟩ = (#[.int .i64 N, .int .i64 M, .int .i64 D] : Array Value)[i]?)) ∧ (w9.cell? ⟨bb, oo + k * 4, none⟩ = some (.int .i64 X) ∧ w9.cell? ⟨bb, oo + k * 4 + 1, none⟩ = some (.int .i64 Z) ∧ w9.cell? ⟨bb, oo + k * 4 + 2, none⟩ = some (.int .i64 lo) ∧ w9.cell? ⟨bb, oo + k * 4 + 3, none⟩ = some (.int .i64 hi)) ∧ Below wr.heap.size wr w9 := ⟨(Blk.later hb hHeld.1.1).full, ⟨cell_later hb hHeld.2.1.1, cell_later hb hHeld.2.1.2.1, cell_later hb hHeld.2.1.2.2.1, cell_later hb hHeld.2.1.2.2.2⟩, belowThru hHeld.2.2 hb⟩
        clear hb
        try go_simp
        refine hK.out _ _ ?_ (fun hHeldN => ?_)
        · (try dsimp only); exact hS9
        clear hK K hHeld
        have hHeld := hHeldN
        clear hHeldN
        try simp only [Act.put, List.setIfInBounds_toArray, List.set_cons_zero, List.set_cons_succ]
        refine wpAnyH_take (i := 6) (v := ?_) rfl (by kernel_rfl) (by kernel_rfl) (by kernel_rfl) (fun _ _ _ h => h) (Or.inl ⟨by rfl, ?hT11⟩) (by assumption) ?_
        case hT11 => ((intro w hSw; (try dsimp only at hSw); go_simp); try (with_reducible rfl))
        try simp only [Act.put, List.setIfInBounds_toArray, List.set_cons_zero, List.set_cons_succ]
        refine wpAnyH_done (by kernel_rfl) ?_ _
        obtain ⟨⟨k1, -⟩, -, hB9⟩ := hS9
        clear hHeld
        go_wp2_with fail
        go_ret
        exact ⟨rfl, belowThru hB hB9⟩
    · have hyes : res = true := by
        rw [← HRes.out]
        exact decide_eq_true fun v hv => by
          obtain ⟨j, hj, he⟩ := List.mem_iff_getElem.1 hv
          have := HLn.out
          exact ht.out j v (by omega) (by rw [← he]; exact List.getElem?_eq_getElem hj)
      subst hyes
      go_wp2
      go_ret
      exact ⟨rfl, by (repeat' (first | (with_reducible exact Below.refl _ _) | (with_reducible assumption) | (with_reducible refine belowThru ?_ (by assumption)) | (with_reducible refine belowAlloc ?_) | (with_reducible refine Below.setCell ?_ (by first | omega | (simp; done) | (simp; omega)) _) | (with_reducible refine Below.drew ?_) | (with_reducible refine below_drewN ?_ _)))⟩
set_option maxRecDepth 100000 in
set_option maxHeartbeats 16000000 in
theorem alike_any (a : Option Addr) (n c : Nat) (vs : List Vw) (hn : n ≤ 12) (hV : ∀ v ∈ vs, InV v) (w : World) (hR : VRow w a n vs) : Calls Try.prog 44 #[.slice a n c] w fun e w' => (∃ res : Bool, e = .returned (.bool res) ∧ (res = true ↔ Alk vs)) ∧ Below w.heap.size w w' := by
  have HV := Lib.hid hV; have HR := Lib.hid hR; have HN := Lib.hid hn
  have HLn : Hid (vs.length = n) := hR.1
  clear hV hR hn
  go_enter Try.func44, Try.ntmps44
  go_wp2_with fail
  go_loopw [3] (fun i wr => ∃ k : Nat, (k ≤ n ∨ k = 1) ∧ 1 ≤ k ∧ i = .int .i64 k ∧ Hid (∀ (j : Nat) (u v : Vw), j < k → vs[0]? = some u → vs[j]? = some v → v.1 * u.2.1 = u.1 * v.2.1) ∧ Below w.heap.size w wr) (fun i _ => n - (intOf i).toNat)
  case atStart => exact ⟨1, .inr rfl, Nat.le_refl _, rfl, (fun j u v h h1 h2 => by obtain rfl : j = 0 := (by omega); rw [h1] at h2; cases h2; rfl : ∀ (j : Nat) (u v : Vw), j < 1 → vs[0]? = some u → vs[j]? = some v → v.1 * u.2.1 = u.1 * v.2.1), by (repeat' (first | (with_reducible exact Below.refl _ _) | (with_reducible assumption) | (with_reducible refine belowThru ?_ (by assumption)) | (with_reducible refine belowAlloc ?_) | (with_reducible refine Below.setCell ?_ (by first | omega | (simp; done) | (simp; omega)) _) | (with_reducible refine Below.drew ?_) | (with_reducible refine below_drewN ?_ _)))⟩
  case round =>
    obtain ⟨k, hk, hk1, rfl, ht, hB⟩ := hrel
    have hn12 := HN.out
    by_cases hlt : k < n
    · obtain ⟨bb, oo, X, Z, lo, hi, rfl, l1, h1, c1, d1, e1, f1⟩ := HR.out.at hlt
      obtain ⟨bb2, oo2, U, V, lo2, hi2, hab, l2, h2, c2, d2, e2, f2⟩ := HR.out.at (show 0 < n by omega)
      obtain ⟨rfl, rfl⟩ : bb = bb2 ∧ oo = oo2 := by simpa using hab
      have hv := (HV.out _ (List.mem_of_getElem? h1)).1
      have hu := (HV.out _ (List.mem_of_getElem? h2)).1
      have c1 := cell_later hB c1
      have d1 := cell_later hB d1
      have c2 := cell_later hB c2
      have d2 := cell_later hB d2
      simp only [Nat.zero_mul, Nat.add_zero] at c2 d2
      have q0 : (0 : Int) ≤ (k : Int) := by omega
      have q1 : (k : Int) < (n : Int) := by omega
      have q2 : (0 : Int) < (n : Int) := by omega
      obtain ⟨⟨x1, x2⟩, z1, z2⟩ := hv
      obtain ⟨⟨u1, u2⟩, v1, v2⟩ := hu
      dsimp only at x1 x2 z1 z2 u1 u2 v1 v2
      have p1 := mul_bound X V 1000 1000 (by omega) (by omega) (by omega) (by omega)
      have p2 := mul_bound U Z 1000 1000 (by omega) (by omega) (by omega) (by omega)
      have w1 := wr64 (X * V) (by omega)
      have w2 := wr64 (U * Z) (by omega)
      clear p1 p2 e1 f1 e2 f2 hab
      by_cases hq : X * V = U * Z
      · have g1 : (X * V == U * Z) = true := by simp [hq]
        have ht' : Hid (∀ (j : Nat) (u v : Vw), j < k + 1 → vs[0]? = some u → vs[j]? = some v → v.1 * u.2.1 = u.1 * v.2.1) := fun j u v hj a1 a2 => by
          rcases Nat.lt_or_ge j k with q | q
          · exact ht.out j u v q a1 a2
          · obtain rfl : j = k := by omega
            rw [h1] at a2; rw [h2] at a1; cases a1; cases a2; exact hq
        clear hq h1 h2 ht
        go_wp2_with fail
        go_region
        go_wp2_with fail
        go_roundw
        case rel => exact ⟨k + 1, .inl hlt, by omega, by go_num, ht', by (repeat' (first | (with_reducible exact Below.refl _ _) | (with_reducible assumption) | (with_reducible refine belowThru ?_ (by assumption)) | (with_reducible refine belowAlloc ?_) | (with_reducible refine Below.setCell ?_ (by first | omega | (simp; done) | (simp; omega)) _) | (with_reducible refine Below.drew ?_) | (with_reducible refine below_drewN ?_ _)))⟩
        case measure => simp [intOf]; omega
      · have g1 : (X * V == U * Z) = false := by simp [hq]
        have hno : Hid (¬ Alk vs) := fun h => hq (h _ (List.mem_of_getElem? h1) _ (List.mem_of_getElem? h2))
        clear hq h1 h2 ht
        go_wp2_with fail
        go_region
        go_wp2_with fail
        go_ret
        exact ⟨⟨false, rfl, fun h => Bool.noConfusion h, fun h => absurd h hno.out⟩, by (repeat' (first | (with_reducible exact Below.refl _ _) | (with_reducible assumption) | (with_reducible refine belowThru ?_ (by assumption)) | (with_reducible refine belowAlloc ?_) | (with_reducible refine Below.setCell ?_ (by first | omega | (simp; done) | (simp; omega)) _) | (with_reducible refine Below.drew ?_) | (with_reducible refine below_drewN ?_ _)))⟩
    · have hyes : Hid (Alk vs) := by
        intro u hu v hv
        have hl := HLn.out
        obtain ⟨i, hi, he⟩ := List.mem_iff_getElem.1 hu
        obtain ⟨j, hj, hf⟩ := List.mem_iff_getElem.1 hv
        have h0 : vs[0]? = some (vs[0]'(by omega)) := List.getElem?_eq_getElem (by omega)
        have a1 := ht.out i _ u (by omega) h0 (by rw [← he]; exact List.getElem?_eq_getElem hi)
        have a2 := ht.out j _ v (by omega) h0 (by rw [← hf]; exact List.getElem?_eq_getElem hj)
        have z0 := (HV.out _ (List.getElem_mem (show 0 < vs.length by omega))).1.2
        exact alk_tr z0 a1 a2
      clear ht hk
      go_wp2
      go_ret
      exact ⟨⟨true, rfl, fun _ => hyes.out, fun _ => rfl⟩, by (repeat' (first | (with_reducible exact Below.refl _ _) | (with_reducible assumption) | (with_reducible refine belowThru ?_ (by assumption)) | (with_reducible refine belowAlloc ?_) | (with_reducible refine Below.setCell ?_ (by first | omega | (simp; done) | (simp; omega)) _) | (with_reducible refine Below.drew ?_) | (with_reducible refine below_drewN ?_ _)))⟩
set_option maxRecDepth 100000 in
set_option maxHeartbeats 16000000 in
theorem pair_any (f c d : Int) (hf : -32768 ≤ f ∧ f ≤ 32767) (hc : -32768 ≤ c ∧ c ≤ 32767) (hd : -32768 ≤ d ∧ d ≤ 32767) (w : World) : Calls Try.prog 41 #[.int .i16 f, .int .i16 c, .int .i16 d] w fun e w' => e = .returned (.agg #[.int .i64 f, .int .i64 c, .int .i64 (max d 1)]) ∧ Below w.heap.size w w' := by
  have w1 := wr64 f (by omega)
  have w2 := wr64 c (by omega)
  have w3 := wr64 d (by omega)
  go_enter Try.func41, Try.ntmps41
  go_wp2_with fail
  exact bodyPost_ret (v := .agg #[.int .i64 f, .int .i64 c, .int .i64 (max d 1)]) (by simp only [results, Try.results41]; go_simp) rfl ⟨rfl, by (repeat' (first | (with_reducible exact Below.refl _ _) | (with_reducible assumption) | (with_reducible refine belowThru ?_ (by assumption)) | (with_reducible refine belowAlloc ?_) | (with_reducible refine Below.setCell ?_ (by first | omega | (simp; done) | (simp; omega)) _) | (with_reducible refine Below.drew ?_) | (with_reducible refine below_drewN ?_ _)))⟩
set_option maxRecDepth 100000 in
set_option maxHeartbeats 16000000 in
theorem at_walk (n d p q : Int) (w : World) (HM : Hid (∀ W : World, Calls Try.prog 81 #[.int .i64 n, .int .i64 d] W fun e W' => e = .returned (.tuple #[.agg #[.int .i64 p, .int .i64 q], .int .i64 0]) ∧ Below W.heap.size W W')) :
    Calls Try.prog 45 #[.int .i64 n, .int .i64 d] w fun e w' => e = .returned (.agg #[.int .i64 p, .int .i64 q]) ∧ Below w.heap.size w w' := by
  go_enter Try.func45, Try.ntmps45
  go_wp2_with fail
  refine (HM.out _).mono ?_
  rintro e w1 ⟨rfl, hb⟩
  have kn0 : Blk w1 (w.heap.size) #[.int .i64 0, .int .i64 0] 23 := Blk.later hb (by (repeat' (first | (with_reducible assumption) | (with_reducible refine Blk.set2 ?_) | ((with_reducible refine Blk.new ?_); first | rfl | (simp; done)) | (with_reducible refine Blk.later (by assumption) ?_) | (with_reducible refine Blk.alloc ?_) | (with_reducible refine Blk.drewN ?_) | (with_reducible refine Blk.drew ?_) | (with_reducible refine Blk.other ?_ (by first | omega | (simp; done) | (simp; omega))))))
  have k0 := kn0; clear kn0; obtain ⟨a0, b0⟩ := k0.read; have y0 := k0.lt
  have hBw : Below w.heap.size w w1 := by (repeat' (first | (with_reducible exact Below.refl _ _) | (with_reducible assumption) | (with_reducible refine belowThru ?_ (by assumption)) | (with_reducible refine belowAlloc ?_) | (with_reducible refine Below.setCell ?_ (by first | omega | (simp; done) | (simp; omega)) _) | (with_reducible refine Below.drew ?_) | (with_reducible refine below_drewN ?_ _)))
  have hzw1 := hBw.size
  clear hb
  go_wp2_with fail
  exact bodyPost_ret (v := .agg #[.int .i64 p, .int .i64 q]) (by simp only [results, Try.results45]; go_simp) rfl ⟨rfl, by (repeat' (first | (with_reducible exact Below.refl _ _) | (with_reducible assumption) | (with_reducible refine belowThru ?_ (by assumption)) | (with_reducible refine belowAlloc ?_) | (with_reducible refine Below.setCell ?_ (by first | omega | (simp; done) | (simp; omega)) _) | (with_reducible refine Below.drew ?_) | (with_reducible refine below_drewN ?_ _)))⟩
theorem at_any (n d : Int) (d0 : d ≠ 0) (d1 : -4611686018427387903 ≤ d) (d2 : d ≤ 4611686018427387903) (n1 : -4611686018427387903 ≤ n) (n2 : n ≤ 4611686018427387903) (w : World) : Calls Try.prog 45 #[.int .i64 n, .int .i64 d] w fun e w' => e = .returned (.agg #[.int .i64 (fn (mkR n d)), .int .i64 (fd (mkR n d))]) ∧ Below w.heap.size w w' :=
  at_walk n d _ _ w (Lib.hid fun W => make_q' n d d0 d1 d2 n1 n2 W)
end Go.Proofs.Ytbdcmdofmokoeaa
