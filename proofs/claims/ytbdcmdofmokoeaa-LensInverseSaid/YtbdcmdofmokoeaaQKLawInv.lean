/-
  LensInverse: the walks and the law.
-/
import Derived.Test.YtbdcmdofmokoeaaQKLawAdd
import Derived.Test.YtbdcmdofmokoeaaQKLawCoM
namespace Go.Proofs.Ytbdcmdofmokoeaa
open Go.RowKit Go.Shelf
set_option linter.unusedVariables false
set_option linter.unusedSimpArgs false

set_option maxRecDepth 100000 in
set_option maxHeartbeats 16000000 in
theorem inv_0 (a : Option Addr) (n c : Nat) (ks : List (Int × Int)) (X D Y F M N O U s ex ey : Int) (w : World) (HR : Hid (KRow w a n ks)) (hn : 50 < (n : Int)) (HAl : Hid (∀ w : World, Calls Try.prog 23 #[] w fun e w' => e = .returned (.bool true) ∧ Below w.heap.size w w'))  :
    Calls Try.prog 5 #[.slice a n c, .agg #[.int .i64 X, .int .i64 D], .agg #[.int .i64 Y, .int .i64 F]] w fun e w' => e = .returned (.bool true) ∧ Below w.heap.size w w' := by
  have hn1 : decide ((50 : Int) < (n : Int)) = true := by simp; omega
  go_enter Try.func5, Try.ntmps5
  go_wp2_with fail
  refine (HAl.out _).mono ?_
  rintro e w1 ⟨rfl, hb⟩
  have kn0 : Blk w1 (w.heap.size) #[.int .i64 X, .int .i64 D] 23 := Blk.later hb (by (repeat' (first | (with_reducible assumption) | (with_reducible refine Blk.set2 ?_) | ((with_reducible refine Blk.new ?_); first | rfl | (simp; done)) | (with_reducible refine Blk.later (by assumption) ?_) | (with_reducible refine Blk.alloc ?_) | (with_reducible refine Blk.drewN ?_) | (with_reducible refine Blk.drew ?_) | (with_reducible refine Blk.other ?_ (by first | omega | (simp; done) | (simp; omega))))))
  have kn1 : Blk w1 (w.heap.size + 1) #[.int .i64 Y, .int .i64 F] 23 := Blk.later hb (by (repeat' (first | (with_reducible assumption) | (with_reducible refine Blk.set2 ?_) | ((with_reducible refine Blk.new ?_); first | rfl | (simp; done)) | (with_reducible refine Blk.later (by assumption) ?_) | (with_reducible refine Blk.alloc ?_) | (with_reducible refine Blk.drewN ?_) | (with_reducible refine Blk.drew ?_) | (with_reducible refine Blk.other ?_ (by first | omega | (simp; done) | (simp; omega))))))
  have k0 := kn0; clear kn0; obtain ⟨a0, b0⟩ := k0.read; have y0 := k0.lt
  have k1 := kn1; clear kn1; obtain ⟨a1, b1⟩ := k1.read; have y1 := k1.lt
  have hBw : Below w.heap.size w w1 := by (repeat' (first | (with_reducible exact Below.refl _ _) | (with_reducible assumption) | (with_reducible refine belowThru ?_ (by assumption)) | (with_reducible refine belowAlloc ?_) | (with_reducible refine Below.setCell ?_ (by first | omega | (simp; done) | (simp; omega)) _) | (with_reducible refine Below.drew ?_) | (with_reducible refine below_drewN ?_ _)))
  have hzw1 := hBw.size
  clear hb
  go_wp2_with fail
  go_ret
  exact ⟨rfl, by (repeat' (first | (with_reducible exact Below.refl _ _) | (with_reducible assumption) | (with_reducible refine belowThru ?_ (by assumption)) | (with_reducible refine belowAlloc ?_) | (with_reducible refine Below.setCell ?_ (by first | omega | (simp; done) | (simp; omega)) _) | (with_reducible refine Below.drew ?_) | (with_reducible refine below_drewN ?_ _)))⟩
set_option maxRecDepth 100000 in
set_option maxHeartbeats 16000000 in
theorem inv_1 (a : Option Addr) (n c : Nat) (ks : List (Int × Int)) (X D Y F M N O U s ex ey : Int) (w : World) (HR : Hid (KRow w a n ks)) (hn : n ≤ 50) (hx : (ex != 0) = true) (HAl : Hid (∀ w : World, Calls Try.prog 23 #[] w fun e w' => e = .returned (.bool true) ∧ Below w.heap.size w w')) (HX : Hid (∀ W : World, KRow W a n ks → Calls Try.prog 15 #[.slice a n c, .agg #[.int .i64 X, .int .i64 D]] W fun e W' => e = .returned (.tuple #[.agg #[.int .i64 M, .int .i64 N], .int .i64 ex]) ∧ Below W.heap.size W W')) (HY : Hid (∀ W : World, KRow W a n ks → Calls Try.prog 15 #[.slice a n c, .agg #[.int .i64 Y, .int .i64 F]] W fun e W' => e = .returned (.tuple #[.agg #[.int .i64 O, .int .i64 U], .int .i64 ey]) ∧ Below W.heap.size W W')) :
    Calls Try.prog 5 #[.slice a n c, .agg #[.int .i64 X, .int .i64 D], .agg #[.int .i64 Y, .int .i64 F]] w fun e w' => e = .returned (.bool true) ∧ Below w.heap.size w w' := by
  have hn1 : decide ((50 : Int) < (n : Int)) = false := by simp; omega
  go_enter Try.func5, Try.ntmps5
  go_wp2_with fail
  refine (HAl.out _).mono ?_
  rintro e w1 ⟨rfl, hb⟩
  have kn0 : Blk w1 (w.heap.size) #[.int .i64 X, .int .i64 D] 23 := Blk.later hb (by (repeat' (first | (with_reducible assumption) | (with_reducible refine Blk.set2 ?_) | ((with_reducible refine Blk.new ?_); first | rfl | (simp; done)) | (with_reducible refine Blk.later (by assumption) ?_) | (with_reducible refine Blk.alloc ?_) | (with_reducible refine Blk.drewN ?_) | (with_reducible refine Blk.drew ?_) | (with_reducible refine Blk.other ?_ (by first | omega | (simp; done) | (simp; omega))))))
  have kn1 : Blk w1 (w.heap.size + 1) #[.int .i64 Y, .int .i64 F] 23 := Blk.later hb (by (repeat' (first | (with_reducible assumption) | (with_reducible refine Blk.set2 ?_) | ((with_reducible refine Blk.new ?_); first | rfl | (simp; done)) | (with_reducible refine Blk.later (by assumption) ?_) | (with_reducible refine Blk.alloc ?_) | (with_reducible refine Blk.drewN ?_) | (with_reducible refine Blk.drew ?_) | (with_reducible refine Blk.other ?_ (by first | omega | (simp; done) | (simp; omega))))))
  have k0 := kn0; clear kn0; obtain ⟨a0, b0⟩ := k0.read; have y0 := k0.lt
  have k1 := kn1; clear kn1; obtain ⟨a1, b1⟩ := k1.read; have y1 := k1.lt
  have hBw : Below w.heap.size w w1 := by (repeat' (first | (with_reducible exact Below.refl _ _) | (with_reducible assumption) | (with_reducible refine belowThru ?_ (by assumption)) | (with_reducible refine belowAlloc ?_) | (with_reducible refine Below.setCell ?_ (by first | omega | (simp; done) | (simp; omega)) _) | (with_reducible refine Below.drew ?_) | (with_reducible refine below_drewN ?_ _)))
  have hzw1 := hBw.size
  clear hb
  go_wp2_with fail
  refine (HX.out _ (HR.out.later (by (repeat' (first | (with_reducible exact Below.refl _ _) | (with_reducible assumption) | (with_reducible refine belowThru ?_ (by assumption)) | (with_reducible refine belowAlloc ?_) | (with_reducible refine Below.setCell ?_ (by first | omega | (simp; done) | (simp; omega)) _) | (with_reducible refine Below.drew ?_) | (with_reducible refine below_drewN ?_ _)))))).mono ?_
  rintro e w2 ⟨rfl, hb⟩
  have kn0 : Blk w2 (w.heap.size) #[.int .i64 X, .int .i64 D] 23 := Blk.later hb (by (repeat' (first | (with_reducible assumption) | (with_reducible refine Blk.set2 ?_) | ((with_reducible refine Blk.new ?_); first | rfl | (simp; done)) | (with_reducible refine Blk.later (by assumption) ?_) | (with_reducible refine Blk.alloc ?_) | (with_reducible refine Blk.drewN ?_) | (with_reducible refine Blk.drew ?_) | (with_reducible refine Blk.other ?_ (by first | omega | (simp; done) | (simp; omega))))))
  have kn1 : Blk w2 (w.heap.size + 1) #[.int .i64 Y, .int .i64 F] 23 := Blk.later hb (by (repeat' (first | (with_reducible assumption) | (with_reducible refine Blk.set2 ?_) | ((with_reducible refine Blk.new ?_); first | rfl | (simp; done)) | (with_reducible refine Blk.later (by assumption) ?_) | (with_reducible refine Blk.alloc ?_) | (with_reducible refine Blk.drewN ?_) | (with_reducible refine Blk.drew ?_) | (with_reducible refine Blk.other ?_ (by first | omega | (simp; done) | (simp; omega))))))
  clear k0 a0 b0 y0
  clear k1 a1 b1 y1
  have k0 := kn0; clear kn0; obtain ⟨a0, b0⟩ := k0.read; have y0 := k0.lt
  have k1 := kn1; clear kn1; obtain ⟨a1, b1⟩ := k1.read; have y1 := k1.lt
  replace hBw : Below w.heap.size w w2 := belowThru (by (repeat' (first | (with_reducible exact Below.refl _ _) | (with_reducible assumption) | (with_reducible refine belowThru ?_ (by assumption)) | (with_reducible refine belowAlloc ?_) | (with_reducible refine Below.setCell ?_ (by first | omega | (simp; done) | (simp; omega)) _) | (with_reducible refine Below.drew ?_) | (with_reducible refine below_drewN ?_ _)))) hb
  have hzw2 := hBw.size
  clear hb
  go_wp2_with fail
  refine (HY.out _ (HR.out.later (by (repeat' (first | (with_reducible exact Below.refl _ _) | (with_reducible assumption) | (with_reducible refine belowThru ?_ (by assumption)) | (with_reducible refine belowAlloc ?_) | (with_reducible refine Below.setCell ?_ (by first | omega | (simp; done) | (simp; omega)) _) | (with_reducible refine Below.drew ?_) | (with_reducible refine below_drewN ?_ _)))))).mono ?_
  rintro e w3 ⟨rfl, hb⟩
  have kn0 : Blk w3 (w.heap.size) #[.int .i64 X, .int .i64 D] 23 := Blk.later hb (by (repeat' (first | (with_reducible assumption) | (with_reducible refine Blk.set2 ?_) | ((with_reducible refine Blk.new ?_); first | rfl | (simp; done)) | (with_reducible refine Blk.later (by assumption) ?_) | (with_reducible refine Blk.alloc ?_) | (with_reducible refine Blk.drewN ?_) | (with_reducible refine Blk.drew ?_) | (with_reducible refine Blk.other ?_ (by first | omega | (simp; done) | (simp; omega))))))
  have kn1 : Blk w3 (w.heap.size + 1) #[.int .i64 Y, .int .i64 F] 23 := Blk.later hb (by (repeat' (first | (with_reducible assumption) | (with_reducible refine Blk.set2 ?_) | ((with_reducible refine Blk.new ?_); first | rfl | (simp; done)) | (with_reducible refine Blk.later (by assumption) ?_) | (with_reducible refine Blk.alloc ?_) | (with_reducible refine Blk.drewN ?_) | (with_reducible refine Blk.drew ?_) | (with_reducible refine Blk.other ?_ (by first | omega | (simp; done) | (simp; omega))))))
  have kn2 : Blk w3 (w2.heap.size) #[.int .i64 M, .int .i64 N] 23 := Blk.later hb (by (repeat' (first | (with_reducible assumption) | (with_reducible refine Blk.set2 ?_) | ((with_reducible refine Blk.new ?_); first | rfl | (simp; done)) | (with_reducible refine Blk.later (by assumption) ?_) | (with_reducible refine Blk.alloc ?_) | (with_reducible refine Blk.drewN ?_) | (with_reducible refine Blk.drew ?_) | (with_reducible refine Blk.other ?_ (by first | omega | (simp; done) | (simp; omega))))))
  clear k0 a0 b0 y0
  clear k1 a1 b1 y1
  have k0 := kn0; clear kn0; obtain ⟨a0, b0⟩ := k0.read; have y0 := k0.lt
  have k1 := kn1; clear kn1; obtain ⟨a1, b1⟩ := k1.read; have y1 := k1.lt
  have k2 := kn2; clear kn2; obtain ⟨a2, b2⟩ := k2.read; have y2 := k2.lt
  replace hBw : Below w.heap.size w w3 := belowThru (by (repeat' (first | (with_reducible exact Below.refl _ _) | (with_reducible assumption) | (with_reducible refine belowThru ?_ (by assumption)) | (with_reducible refine belowAlloc ?_) | (with_reducible refine Below.setCell ?_ (by first | omega | (simp; done) | (simp; omega)) _) | (with_reducible refine Below.drew ?_) | (with_reducible refine below_drewN ?_ _)))) hb
  have hzw3 := hBw.size
  clear hb
  go_wp2_with fail
  go_ret
  exact ⟨rfl, by (repeat' (first | (with_reducible exact Below.refl _ _) | (with_reducible assumption) | (with_reducible refine belowThru ?_ (by assumption)) | (with_reducible refine belowAlloc ?_) | (with_reducible refine Below.setCell ?_ (by first | omega | (simp; done) | (simp; omega)) _) | (with_reducible refine Below.drew ?_) | (with_reducible refine below_drewN ?_ _)))⟩
set_option maxRecDepth 100000 in
set_option maxHeartbeats 16000000 in
theorem inv_2 (a : Option Addr) (n c : Nat) (ks : List (Int × Int)) (X D Y F M N O U s ex ey : Int) (w : World) (HR : Hid (KRow w a n ks)) (hn : n ≤ 50) (hy : (ey != 0) = true) (HAl : Hid (∀ w : World, Calls Try.prog 23 #[] w fun e w' => e = .returned (.bool true) ∧ Below w.heap.size w w')) (HX : Hid (∀ W : World, KRow W a n ks → Calls Try.prog 15 #[.slice a n c, .agg #[.int .i64 X, .int .i64 D]] W fun e W' => e = .returned (.tuple #[.agg #[.int .i64 M, .int .i64 N], .int .i64 0]) ∧ Below W.heap.size W W')) (HY : Hid (∀ W : World, KRow W a n ks → Calls Try.prog 15 #[.slice a n c, .agg #[.int .i64 Y, .int .i64 F]] W fun e W' => e = .returned (.tuple #[.agg #[.int .i64 O, .int .i64 U], .int .i64 ey]) ∧ Below W.heap.size W W')) :
    Calls Try.prog 5 #[.slice a n c, .agg #[.int .i64 X, .int .i64 D], .agg #[.int .i64 Y, .int .i64 F]] w fun e w' => e = .returned (.bool true) ∧ Below w.heap.size w w' := by
  have hn1 : decide ((50 : Int) < (n : Int)) = false := by simp; omega
  go_enter Try.func5, Try.ntmps5
  go_wp2_with fail
  refine (HAl.out _).mono ?_
  rintro e w1 ⟨rfl, hb⟩
  have kn0 : Blk w1 (w.heap.size) #[.int .i64 X, .int .i64 D] 23 := Blk.later hb (by (repeat' (first | (with_reducible assumption) | (with_reducible refine Blk.set2 ?_) | ((with_reducible refine Blk.new ?_); first | rfl | (simp; done)) | (with_reducible refine Blk.later (by assumption) ?_) | (with_reducible refine Blk.alloc ?_) | (with_reducible refine Blk.drewN ?_) | (with_reducible refine Blk.drew ?_) | (with_reducible refine Blk.other ?_ (by first | omega | (simp; done) | (simp; omega))))))
  have kn1 : Blk w1 (w.heap.size + 1) #[.int .i64 Y, .int .i64 F] 23 := Blk.later hb (by (repeat' (first | (with_reducible assumption) | (with_reducible refine Blk.set2 ?_) | ((with_reducible refine Blk.new ?_); first | rfl | (simp; done)) | (with_reducible refine Blk.later (by assumption) ?_) | (with_reducible refine Blk.alloc ?_) | (with_reducible refine Blk.drewN ?_) | (with_reducible refine Blk.drew ?_) | (with_reducible refine Blk.other ?_ (by first | omega | (simp; done) | (simp; omega))))))
  have k0 := kn0; clear kn0; obtain ⟨a0, b0⟩ := k0.read; have y0 := k0.lt
  have k1 := kn1; clear kn1; obtain ⟨a1, b1⟩ := k1.read; have y1 := k1.lt
  have hBw : Below w.heap.size w w1 := by (repeat' (first | (with_reducible exact Below.refl _ _) | (with_reducible assumption) | (with_reducible refine belowThru ?_ (by assumption)) | (with_reducible refine belowAlloc ?_) | (with_reducible refine Below.setCell ?_ (by first | omega | (simp; done) | (simp; omega)) _) | (with_reducible refine Below.drew ?_) | (with_reducible refine below_drewN ?_ _)))
  have hzw1 := hBw.size
  clear hb
  go_wp2_with fail
  refine (HX.out _ (HR.out.later (by (repeat' (first | (with_reducible exact Below.refl _ _) | (with_reducible assumption) | (with_reducible refine belowThru ?_ (by assumption)) | (with_reducible refine belowAlloc ?_) | (with_reducible refine Below.setCell ?_ (by first | omega | (simp; done) | (simp; omega)) _) | (with_reducible refine Below.drew ?_) | (with_reducible refine below_drewN ?_ _)))))).mono ?_
  rintro e w2 ⟨rfl, hb⟩
  have kn0 : Blk w2 (w.heap.size) #[.int .i64 X, .int .i64 D] 23 := Blk.later hb (by (repeat' (first | (with_reducible assumption) | (with_reducible refine Blk.set2 ?_) | ((with_reducible refine Blk.new ?_); first | rfl | (simp; done)) | (with_reducible refine Blk.later (by assumption) ?_) | (with_reducible refine Blk.alloc ?_) | (with_reducible refine Blk.drewN ?_) | (with_reducible refine Blk.drew ?_) | (with_reducible refine Blk.other ?_ (by first | omega | (simp; done) | (simp; omega))))))
  have kn1 : Blk w2 (w.heap.size + 1) #[.int .i64 Y, .int .i64 F] 23 := Blk.later hb (by (repeat' (first | (with_reducible assumption) | (with_reducible refine Blk.set2 ?_) | ((with_reducible refine Blk.new ?_); first | rfl | (simp; done)) | (with_reducible refine Blk.later (by assumption) ?_) | (with_reducible refine Blk.alloc ?_) | (with_reducible refine Blk.drewN ?_) | (with_reducible refine Blk.drew ?_) | (with_reducible refine Blk.other ?_ (by first | omega | (simp; done) | (simp; omega))))))
  clear k0 a0 b0 y0
  clear k1 a1 b1 y1
  have k0 := kn0; clear kn0; obtain ⟨a0, b0⟩ := k0.read; have y0 := k0.lt
  have k1 := kn1; clear kn1; obtain ⟨a1, b1⟩ := k1.read; have y1 := k1.lt
  replace hBw : Below w.heap.size w w2 := belowThru (by (repeat' (first | (with_reducible exact Below.refl _ _) | (with_reducible assumption) | (with_reducible refine belowThru ?_ (by assumption)) | (with_reducible refine belowAlloc ?_) | (with_reducible refine Below.setCell ?_ (by first | omega | (simp; done) | (simp; omega)) _) | (with_reducible refine Below.drew ?_) | (with_reducible refine below_drewN ?_ _)))) hb
  have hzw2 := hBw.size
  clear hb
  go_wp2_with fail
  refine (HY.out _ (HR.out.later (by (repeat' (first | (with_reducible exact Below.refl _ _) | (with_reducible assumption) | (with_reducible refine belowThru ?_ (by assumption)) | (with_reducible refine belowAlloc ?_) | (with_reducible refine Below.setCell ?_ (by first | omega | (simp; done) | (simp; omega)) _) | (with_reducible refine Below.drew ?_) | (with_reducible refine below_drewN ?_ _)))))).mono ?_
  rintro e w3 ⟨rfl, hb⟩
  have kn0 : Blk w3 (w.heap.size) #[.int .i64 X, .int .i64 D] 23 := Blk.later hb (by (repeat' (first | (with_reducible assumption) | (with_reducible refine Blk.set2 ?_) | ((with_reducible refine Blk.new ?_); first | rfl | (simp; done)) | (with_reducible refine Blk.later (by assumption) ?_) | (with_reducible refine Blk.alloc ?_) | (with_reducible refine Blk.drewN ?_) | (with_reducible refine Blk.drew ?_) | (with_reducible refine Blk.other ?_ (by first | omega | (simp; done) | (simp; omega))))))
  have kn1 : Blk w3 (w.heap.size + 1) #[.int .i64 Y, .int .i64 F] 23 := Blk.later hb (by (repeat' (first | (with_reducible assumption) | (with_reducible refine Blk.set2 ?_) | ((with_reducible refine Blk.new ?_); first | rfl | (simp; done)) | (with_reducible refine Blk.later (by assumption) ?_) | (with_reducible refine Blk.alloc ?_) | (with_reducible refine Blk.drewN ?_) | (with_reducible refine Blk.drew ?_) | (with_reducible refine Blk.other ?_ (by first | omega | (simp; done) | (simp; omega))))))
  have kn2 : Blk w3 (w2.heap.size) #[.int .i64 M, .int .i64 N] 23 := Blk.later hb (by (repeat' (first | (with_reducible assumption) | (with_reducible refine Blk.set2 ?_) | ((with_reducible refine Blk.new ?_); first | rfl | (simp; done)) | (with_reducible refine Blk.later (by assumption) ?_) | (with_reducible refine Blk.alloc ?_) | (with_reducible refine Blk.drewN ?_) | (with_reducible refine Blk.drew ?_) | (with_reducible refine Blk.other ?_ (by first | omega | (simp; done) | (simp; omega))))))
  clear k0 a0 b0 y0
  clear k1 a1 b1 y1
  have k0 := kn0; clear kn0; obtain ⟨a0, b0⟩ := k0.read; have y0 := k0.lt
  have k1 := kn1; clear kn1; obtain ⟨a1, b1⟩ := k1.read; have y1 := k1.lt
  have k2 := kn2; clear kn2; obtain ⟨a2, b2⟩ := k2.read; have y2 := k2.lt
  replace hBw : Below w.heap.size w w3 := belowThru (by (repeat' (first | (with_reducible exact Below.refl _ _) | (with_reducible assumption) | (with_reducible refine belowThru ?_ (by assumption)) | (with_reducible refine belowAlloc ?_) | (with_reducible refine Below.setCell ?_ (by first | omega | (simp; done) | (simp; omega)) _) | (with_reducible refine Below.drew ?_) | (with_reducible refine below_drewN ?_ _)))) hb
  have hzw3 := hBw.size
  clear hb
  go_wp2_with fail
  go_ret
  exact ⟨rfl, by (repeat' (first | (with_reducible exact Below.refl _ _) | (with_reducible assumption) | (with_reducible refine belowThru ?_ (by assumption)) | (with_reducible refine belowAlloc ?_) | (with_reducible refine Below.setCell ?_ (by first | omega | (simp; done) | (simp; omega)) _) | (with_reducible refine Below.drew ?_) | (with_reducible refine below_drewN ?_ _)))⟩
set_option maxRecDepth 100000 in
set_option maxHeartbeats 16000000 in
theorem inv_3 (a : Option Addr) (n c : Nat) (ks : List (Int × Int)) (X D Y F M N O U s ex ey : Int) (w : World) (HR : Hid (KRow w a n ks)) (hn : n ≤ 50) (hd : decide (1048576 < N) = true) (HAl : Hid (∀ w : World, Calls Try.prog 23 #[] w fun e w' => e = .returned (.bool true) ∧ Below w.heap.size w w')) (HX : Hid (∀ W : World, KRow W a n ks → Calls Try.prog 15 #[.slice a n c, .agg #[.int .i64 X, .int .i64 D]] W fun e W' => e = .returned (.tuple #[.agg #[.int .i64 M, .int .i64 N], .int .i64 0]) ∧ Below W.heap.size W W')) (HY : Hid (∀ W : World, KRow W a n ks → Calls Try.prog 15 #[.slice a n c, .agg #[.int .i64 Y, .int .i64 F]] W fun e W' => e = .returned (.tuple #[.agg #[.int .i64 O, .int .i64 U], .int .i64 0]) ∧ Below W.heap.size W W')) (HC : Hid (∀ W : World, Calls Try.prog 35 #[.agg #[.int .i64 X, .int .i64 D], .agg #[.int .i64 Y, .int .i64 F]] W fun e W' => e = .returned (.tuple #[.int .i64 s, .int .i64 0]) ∧ Below W.heap.size W W')) (HD : Hid (∀ W : World, Calls Try.prog 35 #[.agg #[.int .i64 M, .int .i64 N], .agg #[.int .i64 O, .int .i64 U]] W fun e W' => e = .returned (.tuple #[.int .i64 s, .int .i64 0]) ∧ Below W.heap.size W W')) :
    Calls Try.prog 5 #[.slice a n c, .agg #[.int .i64 X, .int .i64 D], .agg #[.int .i64 Y, .int .i64 F]] w fun e w' => e = .returned (.bool true) ∧ Below w.heap.size w w' := by
  have hn1 : decide ((50 : Int) < (n : Int)) = false := by simp; omega
  go_enter Try.func5, Try.ntmps5
  go_wp2_with fail
  refine (HAl.out _).mono ?_
  rintro e w1 ⟨rfl, hb⟩
  have kn0 : Blk w1 (w.heap.size) #[.int .i64 X, .int .i64 D] 23 := Blk.later hb (by (repeat' (first | (with_reducible assumption) | (with_reducible refine Blk.set2 ?_) | ((with_reducible refine Blk.new ?_); first | rfl | (simp; done)) | (with_reducible refine Blk.later (by assumption) ?_) | (with_reducible refine Blk.alloc ?_) | (with_reducible refine Blk.drewN ?_) | (with_reducible refine Blk.drew ?_) | (with_reducible refine Blk.other ?_ (by first | omega | (simp; done) | (simp; omega))))))
  have kn1 : Blk w1 (w.heap.size + 1) #[.int .i64 Y, .int .i64 F] 23 := Blk.later hb (by (repeat' (first | (with_reducible assumption) | (with_reducible refine Blk.set2 ?_) | ((with_reducible refine Blk.new ?_); first | rfl | (simp; done)) | (with_reducible refine Blk.later (by assumption) ?_) | (with_reducible refine Blk.alloc ?_) | (with_reducible refine Blk.drewN ?_) | (with_reducible refine Blk.drew ?_) | (with_reducible refine Blk.other ?_ (by first | omega | (simp; done) | (simp; omega))))))
  have k0 := kn0; clear kn0; obtain ⟨a0, b0⟩ := k0.read; have y0 := k0.lt
  have k1 := kn1; clear kn1; obtain ⟨a1, b1⟩ := k1.read; have y1 := k1.lt
  have hBw : Below w.heap.size w w1 := by (repeat' (first | (with_reducible exact Below.refl _ _) | (with_reducible assumption) | (with_reducible refine belowThru ?_ (by assumption)) | (with_reducible refine belowAlloc ?_) | (with_reducible refine Below.setCell ?_ (by first | omega | (simp; done) | (simp; omega)) _) | (with_reducible refine Below.drew ?_) | (with_reducible refine below_drewN ?_ _)))
  have hzw1 := hBw.size
  clear hb
  go_wp2_with fail
  refine (HX.out _ (HR.out.later (by (repeat' (first | (with_reducible exact Below.refl _ _) | (with_reducible assumption) | (with_reducible refine belowThru ?_ (by assumption)) | (with_reducible refine belowAlloc ?_) | (with_reducible refine Below.setCell ?_ (by first | omega | (simp; done) | (simp; omega)) _) | (with_reducible refine Below.drew ?_) | (with_reducible refine below_drewN ?_ _)))))).mono ?_
  rintro e w2 ⟨rfl, hb⟩
  have kn0 : Blk w2 (w.heap.size) #[.int .i64 X, .int .i64 D] 23 := Blk.later hb (by (repeat' (first | (with_reducible assumption) | (with_reducible refine Blk.set2 ?_) | ((with_reducible refine Blk.new ?_); first | rfl | (simp; done)) | (with_reducible refine Blk.later (by assumption) ?_) | (with_reducible refine Blk.alloc ?_) | (with_reducible refine Blk.drewN ?_) | (with_reducible refine Blk.drew ?_) | (with_reducible refine Blk.other ?_ (by first | omega | (simp; done) | (simp; omega))))))
  have kn1 : Blk w2 (w.heap.size + 1) #[.int .i64 Y, .int .i64 F] 23 := Blk.later hb (by (repeat' (first | (with_reducible assumption) | (with_reducible refine Blk.set2 ?_) | ((with_reducible refine Blk.new ?_); first | rfl | (simp; done)) | (with_reducible refine Blk.later (by assumption) ?_) | (with_reducible refine Blk.alloc ?_) | (with_reducible refine Blk.drewN ?_) | (with_reducible refine Blk.drew ?_) | (with_reducible refine Blk.other ?_ (by first | omega | (simp; done) | (simp; omega))))))
  clear k0 a0 b0 y0
  clear k1 a1 b1 y1
  have k0 := kn0; clear kn0; obtain ⟨a0, b0⟩ := k0.read; have y0 := k0.lt
  have k1 := kn1; clear kn1; obtain ⟨a1, b1⟩ := k1.read; have y1 := k1.lt
  replace hBw : Below w.heap.size w w2 := belowThru (by (repeat' (first | (with_reducible exact Below.refl _ _) | (with_reducible assumption) | (with_reducible refine belowThru ?_ (by assumption)) | (with_reducible refine belowAlloc ?_) | (with_reducible refine Below.setCell ?_ (by first | omega | (simp; done) | (simp; omega)) _) | (with_reducible refine Below.drew ?_) | (with_reducible refine below_drewN ?_ _)))) hb
  have hzw2 := hBw.size
  clear hb
  go_wp2_with fail
  refine (HY.out _ (HR.out.later (by (repeat' (first | (with_reducible exact Below.refl _ _) | (with_reducible assumption) | (with_reducible refine belowThru ?_ (by assumption)) | (with_reducible refine belowAlloc ?_) | (with_reducible refine Below.setCell ?_ (by first | omega | (simp; done) | (simp; omega)) _) | (with_reducible refine Below.drew ?_) | (with_reducible refine below_drewN ?_ _)))))).mono ?_
  rintro e w3 ⟨rfl, hb⟩
  have kn0 : Blk w3 (w.heap.size) #[.int .i64 X, .int .i64 D] 23 := Blk.later hb (by (repeat' (first | (with_reducible assumption) | (with_reducible refine Blk.set2 ?_) | ((with_reducible refine Blk.new ?_); first | rfl | (simp; done)) | (with_reducible refine Blk.later (by assumption) ?_) | (with_reducible refine Blk.alloc ?_) | (with_reducible refine Blk.drewN ?_) | (with_reducible refine Blk.drew ?_) | (with_reducible refine Blk.other ?_ (by first | omega | (simp; done) | (simp; omega))))))
  have kn1 : Blk w3 (w.heap.size + 1) #[.int .i64 Y, .int .i64 F] 23 := Blk.later hb (by (repeat' (first | (with_reducible assumption) | (with_reducible refine Blk.set2 ?_) | ((with_reducible refine Blk.new ?_); first | rfl | (simp; done)) | (with_reducible refine Blk.later (by assumption) ?_) | (with_reducible refine Blk.alloc ?_) | (with_reducible refine Blk.drewN ?_) | (with_reducible refine Blk.drew ?_) | (with_reducible refine Blk.other ?_ (by first | omega | (simp; done) | (simp; omega))))))
  have kn2 : Blk w3 (w2.heap.size) #[.int .i64 M, .int .i64 N] 23 := Blk.later hb (by (repeat' (first | (with_reducible assumption) | (with_reducible refine Blk.set2 ?_) | ((with_reducible refine Blk.new ?_); first | rfl | (simp; done)) | (with_reducible refine Blk.later (by assumption) ?_) | (with_reducible refine Blk.alloc ?_) | (with_reducible refine Blk.drewN ?_) | (with_reducible refine Blk.drew ?_) | (with_reducible refine Blk.other ?_ (by first | omega | (simp; done) | (simp; omega))))))
  clear k0 a0 b0 y0
  clear k1 a1 b1 y1
  have k0 := kn0; clear kn0; obtain ⟨a0, b0⟩ := k0.read; have y0 := k0.lt
  have k1 := kn1; clear kn1; obtain ⟨a1, b1⟩ := k1.read; have y1 := k1.lt
  have k2 := kn2; clear kn2; obtain ⟨a2, b2⟩ := k2.read; have y2 := k2.lt
  replace hBw : Below w.heap.size w w3 := belowThru (by (repeat' (first | (with_reducible exact Below.refl _ _) | (with_reducible assumption) | (with_reducible refine belowThru ?_ (by assumption)) | (with_reducible refine belowAlloc ?_) | (with_reducible refine Below.setCell ?_ (by first | omega | (simp; done) | (simp; omega)) _) | (with_reducible refine Below.drew ?_) | (with_reducible refine below_drewN ?_ _)))) hb
  have hzw3 := hBw.size
  clear hb
  go_wp2_with fail
  refine (HC.out _).mono ?_
  rintro e w4 ⟨rfl, hb⟩
  have kn0 : Blk w4 (w.heap.size) #[.int .i64 X, .int .i64 D] 23 := Blk.later hb (by (repeat' (first | (with_reducible assumption) | (with_reducible refine Blk.set2 ?_) | ((with_reducible refine Blk.new ?_); first | rfl | (simp; done)) | (with_reducible refine Blk.later (by assumption) ?_) | (with_reducible refine Blk.alloc ?_) | (with_reducible refine Blk.drewN ?_) | (with_reducible refine Blk.drew ?_) | (with_reducible refine Blk.other ?_ (by first | omega | (simp; done) | (simp; omega))))))
  have kn1 : Blk w4 (w.heap.size + 1) #[.int .i64 Y, .int .i64 F] 23 := Blk.later hb (by (repeat' (first | (with_reducible assumption) | (with_reducible refine Blk.set2 ?_) | ((with_reducible refine Blk.new ?_); first | rfl | (simp; done)) | (with_reducible refine Blk.later (by assumption) ?_) | (with_reducible refine Blk.alloc ?_) | (with_reducible refine Blk.drewN ?_) | (with_reducible refine Blk.drew ?_) | (with_reducible refine Blk.other ?_ (by first | omega | (simp; done) | (simp; omega))))))
  have kn2 : Blk w4 (w2.heap.size) #[.int .i64 M, .int .i64 N] 23 := Blk.later hb (by (repeat' (first | (with_reducible assumption) | (with_reducible refine Blk.set2 ?_) | ((with_reducible refine Blk.new ?_); first | rfl | (simp; done)) | (with_reducible refine Blk.later (by assumption) ?_) | (with_reducible refine Blk.alloc ?_) | (with_reducible refine Blk.drewN ?_) | (with_reducible refine Blk.drew ?_) | (with_reducible refine Blk.other ?_ (by first | omega | (simp; done) | (simp; omega))))))
  have kn3 : Blk w4 (w3.heap.size) #[.int .i64 O, .int .i64 U] 23 := Blk.later hb (by (repeat' (first | (with_reducible assumption) | (with_reducible refine Blk.set2 ?_) | ((with_reducible refine Blk.new ?_); first | rfl | (simp; done)) | (with_reducible refine Blk.later (by assumption) ?_) | (with_reducible refine Blk.alloc ?_) | (with_reducible refine Blk.drewN ?_) | (with_reducible refine Blk.drew ?_) | (with_reducible refine Blk.other ?_ (by first | omega | (simp; done) | (simp; omega))))))
  clear k0 a0 b0 y0
  clear k1 a1 b1 y1
  clear k2 a2 b2 y2
  have k0 := kn0; clear kn0; obtain ⟨a0, b0⟩ := k0.read; have y0 := k0.lt
  have k1 := kn1; clear kn1; obtain ⟨a1, b1⟩ := k1.read; have y1 := k1.lt
  have k2 := kn2; clear kn2; obtain ⟨a2, b2⟩ := k2.read; have y2 := k2.lt
  have k3 := kn3; clear kn3; obtain ⟨a3, b3⟩ := k3.read; have y3 := k3.lt
  replace hBw : Below w.heap.size w w4 := belowThru (by (repeat' (first | (with_reducible exact Below.refl _ _) | (with_reducible assumption) | (with_reducible refine belowThru ?_ (by assumption)) | (with_reducible refine belowAlloc ?_) | (with_reducible refine Below.setCell ?_ (by first | omega | (simp; done) | (simp; omega)) _) | (with_reducible refine Below.drew ?_) | (with_reducible refine below_drewN ?_ _)))) hb
  have hzw4 := hBw.size
  clear hb
  go_wp2_with fail
  refine (HD.out _).mono ?_
  rintro e w5 ⟨rfl, hb⟩
  have kn0 : Blk w5 (w.heap.size) #[.int .i64 X, .int .i64 D] 23 := Blk.later hb (by (repeat' (first | (with_reducible assumption) | (with_reducible refine Blk.set2 ?_) | ((with_reducible refine Blk.new ?_); first | rfl | (simp; done)) | (with_reducible refine Blk.later (by assumption) ?_) | (with_reducible refine Blk.alloc ?_) | (with_reducible refine Blk.drewN ?_) | (with_reducible refine Blk.drew ?_) | (with_reducible refine Blk.other ?_ (by first | omega | (simp; done) | (simp; omega))))))
  have kn1 : Blk w5 (w.heap.size + 1) #[.int .i64 Y, .int .i64 F] 23 := Blk.later hb (by (repeat' (first | (with_reducible assumption) | (with_reducible refine Blk.set2 ?_) | ((with_reducible refine Blk.new ?_); first | rfl | (simp; done)) | (with_reducible refine Blk.later (by assumption) ?_) | (with_reducible refine Blk.alloc ?_) | (with_reducible refine Blk.drewN ?_) | (with_reducible refine Blk.drew ?_) | (with_reducible refine Blk.other ?_ (by first | omega | (simp; done) | (simp; omega))))))
  have kn2 : Blk w5 (w2.heap.size) #[.int .i64 M, .int .i64 N] 23 := Blk.later hb (by (repeat' (first | (with_reducible assumption) | (with_reducible refine Blk.set2 ?_) | ((with_reducible refine Blk.new ?_); first | rfl | (simp; done)) | (with_reducible refine Blk.later (by assumption) ?_) | (with_reducible refine Blk.alloc ?_) | (with_reducible refine Blk.drewN ?_) | (with_reducible refine Blk.drew ?_) | (with_reducible refine Blk.other ?_ (by first | omega | (simp; done) | (simp; omega))))))
  have kn3 : Blk w5 (w3.heap.size) #[.int .i64 O, .int .i64 U] 23 := Blk.later hb (by (repeat' (first | (with_reducible assumption) | (with_reducible refine Blk.set2 ?_) | ((with_reducible refine Blk.new ?_); first | rfl | (simp; done)) | (with_reducible refine Blk.later (by assumption) ?_) | (with_reducible refine Blk.alloc ?_) | (with_reducible refine Blk.drewN ?_) | (with_reducible refine Blk.drew ?_) | (with_reducible refine Blk.other ?_ (by first | omega | (simp; done) | (simp; omega))))))
  clear k0 a0 b0 y0
  clear k1 a1 b1 y1
  clear k2 a2 b2 y2
  clear k3 a3 b3 y3
  have k0 := kn0; clear kn0; obtain ⟨a0, b0⟩ := k0.read; have y0 := k0.lt
  have k1 := kn1; clear kn1; obtain ⟨a1, b1⟩ := k1.read; have y1 := k1.lt
  have k2 := kn2; clear kn2; obtain ⟨a2, b2⟩ := k2.read; have y2 := k2.lt
  have k3 := kn3; clear kn3; obtain ⟨a3, b3⟩ := k3.read; have y3 := k3.lt
  replace hBw : Below w.heap.size w w5 := belowThru (by (repeat' (first | (with_reducible exact Below.refl _ _) | (with_reducible assumption) | (with_reducible refine belowThru ?_ (by assumption)) | (with_reducible refine belowAlloc ?_) | (with_reducible refine Below.setCell ?_ (by first | omega | (simp; done) | (simp; omega)) _) | (with_reducible refine Below.drew ?_) | (with_reducible refine below_drewN ?_ _)))) hb
  have hzw5 := hBw.size
  clear hb
  go_wp2_with fail
  go_ret
  exact ⟨rfl, by (repeat' (first | (with_reducible exact Below.refl _ _) | (with_reducible assumption) | (with_reducible refine belowThru ?_ (by assumption)) | (with_reducible refine belowAlloc ?_) | (with_reducible refine Below.setCell ?_ (by first | omega | (simp; done) | (simp; omega)) _) | (with_reducible refine Below.drew ?_) | (with_reducible refine below_drewN ?_ _)))⟩
set_option maxRecDepth 100000 in
set_option maxHeartbeats 16000000 in
theorem inv_4 (a : Option Addr) (n c : Nat) (ks : List (Int × Int)) (X D Y F M N O U s ex ey : Int) (w : World) (HR : Hid (KRow w a n ks)) (hn : n ≤ 50) (hd : decide (1048576 < N) = false) (HAl : Hid (∀ w : World, Calls Try.prog 23 #[] w fun e w' => e = .returned (.bool true) ∧ Below w.heap.size w w')) (HX : Hid (∀ W : World, KRow W a n ks → Calls Try.prog 15 #[.slice a n c, .agg #[.int .i64 X, .int .i64 D]] W fun e W' => e = .returned (.tuple #[.agg #[.int .i64 M, .int .i64 N], .int .i64 0]) ∧ Below W.heap.size W W')) (HY : Hid (∀ W : World, KRow W a n ks → Calls Try.prog 15 #[.slice a n c, .agg #[.int .i64 Y, .int .i64 F]] W fun e W' => e = .returned (.tuple #[.agg #[.int .i64 O, .int .i64 U], .int .i64 0]) ∧ Below W.heap.size W W')) (HC : Hid (∀ W : World, Calls Try.prog 35 #[.agg #[.int .i64 X, .int .i64 D], .agg #[.int .i64 Y, .int .i64 F]] W fun e W' => e = .returned (.tuple #[.int .i64 s, .int .i64 0]) ∧ Below W.heap.size W W')) (HD : Hid (∀ W : World, Calls Try.prog 35 #[.agg #[.int .i64 M, .int .i64 N], .agg #[.int .i64 O, .int .i64 U]] W fun e W' => e = .returned (.tuple #[.int .i64 s, .int .i64 0]) ∧ Below W.heap.size W W')) (HB : Hid (∀ W : World, KRow W a n ks → Calls Try.prog 36 #[.slice a n c, .agg #[.int .i64 M, .int .i64 N]] W fun e W' => e = .returned (.tuple #[.agg #[.int .i64 X, .int .i64 D], .int .i64 0]) ∧ Below W.heap.size W W')) :
    Calls Try.prog 5 #[.slice a n c, .agg #[.int .i64 X, .int .i64 D], .agg #[.int .i64 Y, .int .i64 F]] w fun e w' => e = .returned (.bool true) ∧ Below w.heap.size w w' := by
  have hn1 : decide ((50 : Int) < (n : Int)) = false := by simp; omega
  go_enter Try.func5, Try.ntmps5
  go_wp2_with fail
  refine (HAl.out _).mono ?_
  rintro e w1 ⟨rfl, hb⟩
  have kn0 : Blk w1 (w.heap.size) #[.int .i64 X, .int .i64 D] 23 := Blk.later hb (by (repeat' (first | (with_reducible assumption) | (with_reducible refine Blk.set2 ?_) | ((with_reducible refine Blk.new ?_); first | rfl | (simp; done)) | (with_reducible refine Blk.later (by assumption) ?_) | (with_reducible refine Blk.alloc ?_) | (with_reducible refine Blk.drewN ?_) | (with_reducible refine Blk.drew ?_) | (with_reducible refine Blk.other ?_ (by first | omega | (simp; done) | (simp; omega))))))
  have kn1 : Blk w1 (w.heap.size + 1) #[.int .i64 Y, .int .i64 F] 23 := Blk.later hb (by (repeat' (first | (with_reducible assumption) | (with_reducible refine Blk.set2 ?_) | ((with_reducible refine Blk.new ?_); first | rfl | (simp; done)) | (with_reducible refine Blk.later (by assumption) ?_) | (with_reducible refine Blk.alloc ?_) | (with_reducible refine Blk.drewN ?_) | (with_reducible refine Blk.drew ?_) | (with_reducible refine Blk.other ?_ (by first | omega | (simp; done) | (simp; omega))))))
  have k0 := kn0; clear kn0; obtain ⟨a0, b0⟩ := k0.read; have y0 := k0.lt
  have k1 := kn1; clear kn1; obtain ⟨a1, b1⟩ := k1.read; have y1 := k1.lt
  have hBw : Below w.heap.size w w1 := by (repeat' (first | (with_reducible exact Below.refl _ _) | (with_reducible assumption) | (with_reducible refine belowThru ?_ (by assumption)) | (with_reducible refine belowAlloc ?_) | (with_reducible refine Below.setCell ?_ (by first | omega | (simp; done) | (simp; omega)) _) | (with_reducible refine Below.drew ?_) | (with_reducible refine below_drewN ?_ _)))
  have hzw1 := hBw.size
  clear hb
  go_wp2_with fail
  refine (HX.out _ (HR.out.later (by (repeat' (first | (with_reducible exact Below.refl _ _) | (with_reducible assumption) | (with_reducible refine belowThru ?_ (by assumption)) | (with_reducible refine belowAlloc ?_) | (with_reducible refine Below.setCell ?_ (by first | omega | (simp; done) | (simp; omega)) _) | (with_reducible refine Below.drew ?_) | (with_reducible refine below_drewN ?_ _)))))).mono ?_
  rintro e w2 ⟨rfl, hb⟩
  have kn0 : Blk w2 (w.heap.size) #[.int .i64 X, .int .i64 D] 23 := Blk.later hb (by (repeat' (first | (with_reducible assumption) | (with_reducible refine Blk.set2 ?_) | ((with_reducible refine Blk.new ?_); first | rfl | (simp; done)) | (with_reducible refine Blk.later (by assumption) ?_) | (with_reducible refine Blk.alloc ?_) | (with_reducible refine Blk.drewN ?_) | (with_reducible refine Blk.drew ?_) | (with_reducible refine Blk.other ?_ (by first | omega | (simp; done) | (simp; omega))))))
  have kn1 : Blk w2 (w.heap.size + 1) #[.int .i64 Y, .int .i64 F] 23 := Blk.later hb (by (repeat' (first | (with_reducible assumption) | (with_reducible refine Blk.set2 ?_) | ((with_reducible refine Blk.new ?_); first | rfl | (simp; done)) | (with_reducible refine Blk.later (by assumption) ?_) | (with_reducible refine Blk.alloc ?_) | (with_reducible refine Blk.drewN ?_) | (with_reducible refine Blk.drew ?_) | (with_reducible refine Blk.other ?_ (by first | omega | (simp; done) | (simp; omega))))))
  clear k0 a0 b0 y0
  clear k1 a1 b1 y1
  have k0 := kn0; clear kn0; obtain ⟨a0, b0⟩ := k0.read; have y0 := k0.lt
  have k1 := kn1; clear kn1; obtain ⟨a1, b1⟩ := k1.read; have y1 := k1.lt
  replace hBw : Below w.heap.size w w2 := belowThru (by (repeat' (first | (with_reducible exact Below.refl _ _) | (with_reducible assumption) | (with_reducible refine belowThru ?_ (by assumption)) | (with_reducible refine belowAlloc ?_) | (with_reducible refine Below.setCell ?_ (by first | omega | (simp; done) | (simp; omega)) _) | (with_reducible refine Below.drew ?_) | (with_reducible refine below_drewN ?_ _)))) hb
  have hzw2 := hBw.size
  clear hb
  go_wp2_with fail
  refine (HY.out _ (HR.out.later (by (repeat' (first | (with_reducible exact Below.refl _ _) | (with_reducible assumption) | (with_reducible refine belowThru ?_ (by assumption)) | (with_reducible refine belowAlloc ?_) | (with_reducible refine Below.setCell ?_ (by first | omega | (simp; done) | (simp; omega)) _) | (with_reducible refine Below.drew ?_) | (with_reducible refine below_drewN ?_ _)))))).mono ?_
  rintro e w3 ⟨rfl, hb⟩
  have kn0 : Blk w3 (w.heap.size) #[.int .i64 X, .int .i64 D] 23 := Blk.later hb (by (repeat' (first | (with_reducible assumption) | (with_reducible refine Blk.set2 ?_) | ((with_reducible refine Blk.new ?_); first | rfl | (simp; done)) | (with_reducible refine Blk.later (by assumption) ?_) | (with_reducible refine Blk.alloc ?_) | (with_reducible refine Blk.drewN ?_) | (with_reducible refine Blk.drew ?_) | (with_reducible refine Blk.other ?_ (by first | omega | (simp; done) | (simp; omega))))))
  have kn1 : Blk w3 (w.heap.size + 1) #[.int .i64 Y, .int .i64 F] 23 := Blk.later hb (by (repeat' (first | (with_reducible assumption) | (with_reducible refine Blk.set2 ?_) | ((with_reducible refine Blk.new ?_); first | rfl | (simp; done)) | (with_reducible refine Blk.later (by assumption) ?_) | (with_reducible refine Blk.alloc ?_) | (with_reducible refine Blk.drewN ?_) | (with_reducible refine Blk.drew ?_) | (with_reducible refine Blk.other ?_ (by first | omega | (simp; done) | (simp; omega))))))
  have kn2 : Blk w3 (w2.heap.size) #[.int .i64 M, .int .i64 N] 23 := Blk.later hb (by (repeat' (first | (with_reducible assumption) | (with_reducible refine Blk.set2 ?_) | ((with_reducible refine Blk.new ?_); first | rfl | (simp; done)) | (with_reducible refine Blk.later (by assumption) ?_) | (with_reducible refine Blk.alloc ?_) | (with_reducible refine Blk.drewN ?_) | (with_reducible refine Blk.drew ?_) | (with_reducible refine Blk.other ?_ (by first | omega | (simp; done) | (simp; omega))))))
  clear k0 a0 b0 y0
  clear k1 a1 b1 y1
  have k0 := kn0; clear kn0; obtain ⟨a0, b0⟩ := k0.read; have y0 := k0.lt
  have k1 := kn1; clear kn1; obtain ⟨a1, b1⟩ := k1.read; have y1 := k1.lt
  have k2 := kn2; clear kn2; obtain ⟨a2, b2⟩ := k2.read; have y2 := k2.lt
  replace hBw : Below w.heap.size w w3 := belowThru (by (repeat' (first | (with_reducible exact Below.refl _ _) | (with_reducible assumption) | (with_reducible refine belowThru ?_ (by assumption)) | (with_reducible refine belowAlloc ?_) | (with_reducible refine Below.setCell ?_ (by first | omega | (simp; done) | (simp; omega)) _) | (with_reducible refine Below.drew ?_) | (with_reducible refine below_drewN ?_ _)))) hb
  have hzw3 := hBw.size
  clear hb
  go_wp2_with fail
  refine (HC.out _).mono ?_
  rintro e w4 ⟨rfl, hb⟩
  have kn0 : Blk w4 (w.heap.size) #[.int .i64 X, .int .i64 D] 23 := Blk.later hb (by (repeat' (first | (with_reducible assumption) | (with_reducible refine Blk.set2 ?_) | ((with_reducible refine Blk.new ?_); first | rfl | (simp; done)) | (with_reducible refine Blk.later (by assumption) ?_) | (with_reducible refine Blk.alloc ?_) | (with_reducible refine Blk.drewN ?_) | (with_reducible refine Blk.drew ?_) | (with_reducible refine Blk.other ?_ (by first | omega | (simp; done) | (simp; omega))))))
  have kn1 : Blk w4 (w.heap.size + 1) #[.int .i64 Y, .int .i64 F] 23 := Blk.later hb (by (repeat' (first | (with_reducible assumption) | (with_reducible refine Blk.set2 ?_) | ((with_reducible refine Blk.new ?_); first | rfl | (simp; done)) | (with_reducible refine Blk.later (by assumption) ?_) | (with_reducible refine Blk.alloc ?_) | (with_reducible refine Blk.drewN ?_) | (with_reducible refine Blk.drew ?_) | (with_reducible refine Blk.other ?_ (by first | omega | (simp; done) | (simp; omega))))))
  have kn2 : Blk w4 (w2.heap.size) #[.int .i64 M, .int .i64 N] 23 := Blk.later hb (by (repeat' (first | (with_reducible assumption) | (with_reducible refine Blk.set2 ?_) | ((with_reducible refine Blk.new ?_); first | rfl | (simp; done)) | (with_reducible refine Blk.later (by assumption) ?_) | (with_reducible refine Blk.alloc ?_) | (with_reducible refine Blk.drewN ?_) | (with_reducible refine Blk.drew ?_) | (with_reducible refine Blk.other ?_ (by first | omega | (simp; done) | (simp; omega))))))
  have kn3 : Blk w4 (w3.heap.size) #[.int .i64 O, .int .i64 U] 23 := Blk.later hb (by (repeat' (first | (with_reducible assumption) | (with_reducible refine Blk.set2 ?_) | ((with_reducible refine Blk.new ?_); first | rfl | (simp; done)) | (with_reducible refine Blk.later (by assumption) ?_) | (with_reducible refine Blk.alloc ?_) | (with_reducible refine Blk.drewN ?_) | (with_reducible refine Blk.drew ?_) | (with_reducible refine Blk.other ?_ (by first | omega | (simp; done) | (simp; omega))))))
  clear k0 a0 b0 y0
  clear k1 a1 b1 y1
  clear k2 a2 b2 y2
  have k0 := kn0; clear kn0; obtain ⟨a0, b0⟩ := k0.read; have y0 := k0.lt
  have k1 := kn1; clear kn1; obtain ⟨a1, b1⟩ := k1.read; have y1 := k1.lt
  have k2 := kn2; clear kn2; obtain ⟨a2, b2⟩ := k2.read; have y2 := k2.lt
  have k3 := kn3; clear kn3; obtain ⟨a3, b3⟩ := k3.read; have y3 := k3.lt
  replace hBw : Below w.heap.size w w4 := belowThru (by (repeat' (first | (with_reducible exact Below.refl _ _) | (with_reducible assumption) | (with_reducible refine belowThru ?_ (by assumption)) | (with_reducible refine belowAlloc ?_) | (with_reducible refine Below.setCell ?_ (by first | omega | (simp; done) | (simp; omega)) _) | (with_reducible refine Below.drew ?_) | (with_reducible refine below_drewN ?_ _)))) hb
  have hzw4 := hBw.size
  clear hb
  go_wp2_with fail
  refine (HD.out _).mono ?_
  rintro e w5 ⟨rfl, hb⟩
  have kn0 : Blk w5 (w.heap.size) #[.int .i64 X, .int .i64 D] 23 := Blk.later hb (by (repeat' (first | (with_reducible assumption) | (with_reducible refine Blk.set2 ?_) | ((with_reducible refine Blk.new ?_); first | rfl | (simp; done)) | (with_reducible refine Blk.later (by assumption) ?_) | (with_reducible refine Blk.alloc ?_) | (with_reducible refine Blk.drewN ?_) | (with_reducible refine Blk.drew ?_) | (with_reducible refine Blk.other ?_ (by first | omega | (simp; done) | (simp; omega))))))
  have kn1 : Blk w5 (w.heap.size + 1) #[.int .i64 Y, .int .i64 F] 23 := Blk.later hb (by (repeat' (first | (with_reducible assumption) | (with_reducible refine Blk.set2 ?_) | ((with_reducible refine Blk.new ?_); first | rfl | (simp; done)) | (with_reducible refine Blk.later (by assumption) ?_) | (with_reducible refine Blk.alloc ?_) | (with_reducible refine Blk.drewN ?_) | (with_reducible refine Blk.drew ?_) | (with_reducible refine Blk.other ?_ (by first | omega | (simp; done) | (simp; omega))))))
  have kn2 : Blk w5 (w2.heap.size) #[.int .i64 M, .int .i64 N] 23 := Blk.later hb (by (repeat' (first | (with_reducible assumption) | (with_reducible refine Blk.set2 ?_) | ((with_reducible refine Blk.new ?_); first | rfl | (simp; done)) | (with_reducible refine Blk.later (by assumption) ?_) | (with_reducible refine Blk.alloc ?_) | (with_reducible refine Blk.drewN ?_) | (with_reducible refine Blk.drew ?_) | (with_reducible refine Blk.other ?_ (by first | omega | (simp; done) | (simp; omega))))))
  have kn3 : Blk w5 (w3.heap.size) #[.int .i64 O, .int .i64 U] 23 := Blk.later hb (by (repeat' (first | (with_reducible assumption) | (with_reducible refine Blk.set2 ?_) | ((with_reducible refine Blk.new ?_); first | rfl | (simp; done)) | (with_reducible refine Blk.later (by assumption) ?_) | (with_reducible refine Blk.alloc ?_) | (with_reducible refine Blk.drewN ?_) | (with_reducible refine Blk.drew ?_) | (with_reducible refine Blk.other ?_ (by first | omega | (simp; done) | (simp; omega))))))
  clear k0 a0 b0 y0
  clear k1 a1 b1 y1
  clear k2 a2 b2 y2
  clear k3 a3 b3 y3
  have k0 := kn0; clear kn0; obtain ⟨a0, b0⟩ := k0.read; have y0 := k0.lt
  have k1 := kn1; clear kn1; obtain ⟨a1, b1⟩ := k1.read; have y1 := k1.lt
  have k2 := kn2; clear kn2; obtain ⟨a2, b2⟩ := k2.read; have y2 := k2.lt
  have k3 := kn3; clear kn3; obtain ⟨a3, b3⟩ := k3.read; have y3 := k3.lt
  replace hBw : Below w.heap.size w w5 := belowThru (by (repeat' (first | (with_reducible exact Below.refl _ _) | (with_reducible assumption) | (with_reducible refine belowThru ?_ (by assumption)) | (with_reducible refine belowAlloc ?_) | (with_reducible refine Below.setCell ?_ (by first | omega | (simp; done) | (simp; omega)) _) | (with_reducible refine Below.drew ?_) | (with_reducible refine below_drewN ?_ _)))) hb
  have hzw5 := hBw.size
  clear hb
  go_wp2_with fail
  refine (HB.out _ (HR.out.later (by (repeat' (first | (with_reducible exact Below.refl _ _) | (with_reducible assumption) | (with_reducible refine belowThru ?_ (by assumption)) | (with_reducible refine belowAlloc ?_) | (with_reducible refine Below.setCell ?_ (by first | omega | (simp; done) | (simp; omega)) _) | (with_reducible refine Below.drew ?_) | (with_reducible refine below_drewN ?_ _)))))).mono ?_
  rintro e w6 ⟨rfl, hb⟩
  have kn0 : Blk w6 (w.heap.size) #[.int .i64 X, .int .i64 D] 23 := Blk.later hb (by (repeat' (first | (with_reducible assumption) | (with_reducible refine Blk.set2 ?_) | ((with_reducible refine Blk.new ?_); first | rfl | (simp; done)) | (with_reducible refine Blk.later (by assumption) ?_) | (with_reducible refine Blk.alloc ?_) | (with_reducible refine Blk.drewN ?_) | (with_reducible refine Blk.drew ?_) | (with_reducible refine Blk.other ?_ (by first | omega | (simp; done) | (simp; omega))))))
  have kn1 : Blk w6 (w.heap.size + 1) #[.int .i64 Y, .int .i64 F] 23 := Blk.later hb (by (repeat' (first | (with_reducible assumption) | (with_reducible refine Blk.set2 ?_) | ((with_reducible refine Blk.new ?_); first | rfl | (simp; done)) | (with_reducible refine Blk.later (by assumption) ?_) | (with_reducible refine Blk.alloc ?_) | (with_reducible refine Blk.drewN ?_) | (with_reducible refine Blk.drew ?_) | (with_reducible refine Blk.other ?_ (by first | omega | (simp; done) | (simp; omega))))))
  have kn2 : Blk w6 (w2.heap.size) #[.int .i64 M, .int .i64 N] 23 := Blk.later hb (by (repeat' (first | (with_reducible assumption) | (with_reducible refine Blk.set2 ?_) | ((with_reducible refine Blk.new ?_); first | rfl | (simp; done)) | (with_reducible refine Blk.later (by assumption) ?_) | (with_reducible refine Blk.alloc ?_) | (with_reducible refine Blk.drewN ?_) | (with_reducible refine Blk.drew ?_) | (with_reducible refine Blk.other ?_ (by first | omega | (simp; done) | (simp; omega))))))
  have kn3 : Blk w6 (w3.heap.size) #[.int .i64 O, .int .i64 U] 23 := Blk.later hb (by (repeat' (first | (with_reducible assumption) | (with_reducible refine Blk.set2 ?_) | ((with_reducible refine Blk.new ?_); first | rfl | (simp; done)) | (with_reducible refine Blk.later (by assumption) ?_) | (with_reducible refine Blk.alloc ?_) | (with_reducible refine Blk.drewN ?_) | (with_reducible refine Blk.drew ?_) | (with_reducible refine Blk.other ?_ (by first | omega | (simp; done) | (simp; omega))))))
  clear k0 a0 b0 y0
  clear k1 a1 b1 y1
  clear k2 a2 b2 y2
  clear k3 a3 b3 y3
  have k0 := kn0; clear kn0; obtain ⟨a0, b0⟩ := k0.read; have y0 := k0.lt
  have k1 := kn1; clear kn1; obtain ⟨a1, b1⟩ := k1.read; have y1 := k1.lt
  have k2 := kn2; clear kn2; obtain ⟨a2, b2⟩ := k2.read; have y2 := k2.lt
  have k3 := kn3; clear kn3; obtain ⟨a3, b3⟩ := k3.read; have y3 := k3.lt
  replace hBw : Below w.heap.size w w6 := belowThru (by (repeat' (first | (with_reducible exact Below.refl _ _) | (with_reducible assumption) | (with_reducible refine belowThru ?_ (by assumption)) | (with_reducible refine belowAlloc ?_) | (with_reducible refine Below.setCell ?_ (by first | omega | (simp; done) | (simp; omega)) _) | (with_reducible refine Below.drew ?_) | (with_reducible refine below_drewN ?_ _)))) hb
  have hzw6 := hBw.size
  clear hb
  go_wp2_with fail
  go_ret
  exact ⟨rfl, by (repeat' (first | (with_reducible exact Below.refl _ _) | (with_reducible assumption) | (with_reducible refine belowThru ?_ (by assumption)) | (with_reducible refine belowAlloc ?_) | (with_reducible refine Below.setCell ?_ (by first | omega | (simp; done) | (simp; omega)) _) | (with_reducible refine Below.drew ?_) | (with_reducible refine below_drewN ?_ _)))⟩
theorem ordQ_cg {q r q' r' : Rat} (h1 : q < r ↔ q' < r') (h2 : q = r ↔ q' = r') : ordQ q r = ordQ q' r' := by
  have a := @ordQ_lt q r; have b := @ordQ_eq q r; have c := @ordQ_lt q' r'; have d := @ordQ_eq q' r'
  have e := ordQ_bounds q r; have f := ordQ_bounds q' r'
  by_cases k : q < r
  · have := a.2 k; have := c.2 (h1.1 k); omega
  · by_cases m : q = r
    · have := b.2 m; have := d.2 (h2.1 m); omega
    · have k' := fun h => k (h1.2 h)
      have m' := fun h => m (h2.2 h)
      have := mt a.1 k; have := mt b.1 m; have := mt c.1 k'; have := mt d.1 m'; omega
theorem lawInv_true (a : Option Addr) (n c : Nat) (ks : List (Int × Int)) (X D Y F : Int) (hX : M64 X) (hY : M64 Y) (w : World) (hR : KRow w a n ks) : Calls Try.prog 5 #[.slice a n c, .agg #[.int .i64 X, .int .i64 D], .agg #[.int .i64 Y, .int .i64 F]] w fun e w' => e = .returned (.bool true) ∧ Below w.heap.size w w' := by
  have HAl := Lib.hid alive_true
  have HR := Lib.hid hR
  by_cases hn : n ≤ 50
  · have hl : ks.length = n := hR.1
    have HX := Lib.hid (fun W h => cor_any ks X D hX a n c W (by omega) h)
    have HY := Lib.hid (fun W h => cor_any ks Y F hY a n c W (by omega) h)
    by_cases e1 : coE ks X D = 0
    · by_cases e2 : coE ks Y F = 0
      · obtain ⟨hk, kx⟩ := coE_zero e1
        obtain ⟨-, ky⟩ := coE_zero e2
        have n1 : coN ks X D = fn (coQ ks X D) := if_pos e1
        have d1 : coD ks X D = fd (coQ ks X D) := if_pos e1
        have n2 : coN ks Y F = fn (coQ ks Y F) := if_pos e2
        have d2 : coD ks Y F = fd (coQ ks Y F) := if_pos e2
        rw [e1, n1, d1] at HX
        rw [e2, n2, d2] at HY
        obtain ⟨fx, fx1, fx2⟩ := okF_mk kx.1
        obtain ⟨fy, fy1, fy2⟩ := okF_mk ky.1
        have HC : ∀ W, _ := fun W => compare_q (mkR X D) (mkR Y F) fx fy W
        have HD : ∀ W, _ := fun W => compare_q (coQ ks X D) (coQ ks Y F) (coQ_fits hk kx) (coQ_fits hk ky) W
        rw [fx1, fx2, fy1, fy2] at HC
        have hs : ordQ (coQ ks X D) (coQ ks Y F) = ordQ (mkR X D) (mkR Y F) := by
          refine ordQ_cg ⟨fun h => Rat.not_le.1 fun q => ?_, coQ_lt hk kx ky⟩ ⟨fun h => ?_, coQ_eq kx.1 ky.1⟩
          · exact Rat.not_le.2 h (coQ_le hk ky kx q)
          · refine Rat.le_antisymm (Rat.not_lt.1 fun q => ?_) (Rat.not_lt.1 fun q => ?_)
            · have := coQ_lt hk ky kx q; rw [h] at this; exact Rat.lt_irrefl this
            · have := coQ_lt hk kx ky q; rw [h] at this; exact Rat.lt_irrefl this
        rw [hs] at HD
        by_cases hd : 1048576 < fd (coQ ks X D)
        · exact inv_3 a n c ks X D Y F _ _ _ _ _ 0 0 w HR hn (decide_eq_true hd) HAl HX HY (Lib.hid HC) (Lib.hid HD)
        · have q1 : M64 (fn (coQ ks X D)) := by have := coQ_fits hk kx; unfold fits at this; unfold M64; omega
          have HB := Lib.hid (fun W h => dis_any ks (fn (coQ ks X D)) (fd (coQ ks X D)) q1 (by omega) a n c W (by omega) h)
          have hb := coQ_back hk kx (by omega)
          have e3 : coE (ks.map swp) (fn (coQ ks X D)) (fd (coQ ks X D)) = 0 := coE_ok (okT_swp.2 hk) (coQ_in hk kx (by omega))
          have n3 : coN (ks.map swp) (fn (coQ ks X D)) (fd (coQ ks X D)) = X := by rw [show coN (ks.map swp) (fn (coQ ks X D)) (fd (coQ ks X D)) = fn (coQ (ks.map swp) (fn (coQ ks X D)) (fd (coQ ks X D))) from if_pos e3, hb, fx1]
          have d3 : coD (ks.map swp) (fn (coQ ks X D)) (fd (coQ ks X D)) = D := by rw [show coD (ks.map swp) (fn (coQ ks X D)) (fd (coQ ks X D)) = fd (coQ (ks.map swp) (fn (coQ ks X D)) (fd (coQ ks X D))) from if_pos e3, hb, fx2]
          rw [e3, n3, d3] at HB
          exact inv_4 a n c ks X D Y F _ _ _ _ _ 0 0 w HR hn (decide_eq_false hd) HAl HX HY (Lib.hid HC) (Lib.hid HD) HB
      · rw [e1] at HX
        exact inv_2 a n c ks X D Y F _ _ _ _ 0 0 _ w HR hn (ne0 e2) HAl HX HY
    · exact inv_1 a n c ks X D Y F _ _ _ _ 0 _ _ w HR hn (ne0 e1) HAl HX HY
  · exact inv_0 a n c ks X D Y F 0 0 0 0 0 0 0 w HR (by omega) HAl
end Go.Proofs.Ytbdcmdofmokoeaa
