/-
  The law GaugeMirror: the walk.
-/
import Derived.Test.YtbcgebobfnclnaaM6
namespace Go.Proofs.Ytbcgebobfnclnaa
open Go.RowKit Go.Shelf
set_option linter.unusedVariables false
set_option linter.unusedSimpArgs false

set_option maxRecDepth 100000 in
set_option maxHeartbeats 16000000 in
theorem mirror_long (a : Option Addr) (n c : Nat) (zs : List Int) (t p nz : Int) (w : World) (hR : Row w a n (iv zs)) (hn : n ≤ maxLen) (hl : 64 < n) :
    Calls Try.prog 9 #[.slice a n c, .int .i64 t, .int .i64 p, .int .i64 nz] w fun e w' => e = .returned (.bool true) ∧ Below w.heap.size w w' := by
  have hd : decide (64 < (n : Int)) = true := by simp; omega
  unfold maxLen at hn
  have HR := Lib.hid hR
  clear hR
  go_enter Try.func9, Try.ntmps9
  go_wp2_with fail
  refine (alive_true _).mono ?_
  rintro e w1 ⟨rfl, hb⟩
  have hBw : Below w.heap.size w w1 := by (repeat' (first | (with_reducible exact Below.refl _ _) | (with_reducible assumption) | (with_reducible refine belowThru ?_ (by assumption)) | (with_reducible refine belowAlloc ?_) | (with_reducible refine Below.setCell ?_ (by first | omega | (simp; done) | (simp; omega)) _) | (with_reducible refine Below.drew ?_) | (with_reducible refine below_drewN ?_ _)))
  have hzw1 := hBw.size
  clear hb
  go_wp2_with fail
  go_ret
  exact ⟨rfl, by (repeat' (first | (with_reducible exact Below.refl _ _) | (with_reducible assumption) | (with_reducible refine belowThru ?_ (by assumption)) | (with_reducible refine belowAlloc ?_) | (with_reducible refine Below.setCell ?_ (by first | omega | (simp; done) | (simp; omega)) _) | (with_reducible refine Below.drew ?_) | (with_reducible refine below_drewN ?_ _)))⟩
set_option maxRecDepth 100000 in
set_option maxHeartbeats 16000000 in
theorem mirror_00 (a : Option Addr) (n c : Nat) (zs : List Int) (t p nz : Int) (w : World) (hR : Row w a n (iv zs)) (hl : n ≤ 64) (L : List Int) (M q x1 x2 o1 o2 z1 z2 s1 s2 s3 s4 r1 r2 r3 r4 u1 u2 u3 u4 e1 e2 lo1 lo2 hi1 hi2 E G J K Q V : Int) (hM : IntKind.i64.wrap ((n : Int) - 1) = M) (hq : IntKind.i64.wrap (M - p) = q)
    (HX : Hid (∀ w : World, Row w a n (iv zs) → Calls Try.prog 17 #[.slice a n c, .int .i64 t, .int .i64 p] w fun e w' => e = .returned (.tuple #[.agg #[.int .i64 x1, .int .i64 x2], .int .i64 0]) ∧ Below w.heap.size w w')) (HY : Hid (∀ (v : Option Addr) (c : Nat) (w : World), Row w v n (iv L) → Calls Try.prog 19 #[.slice v n c, .int .i64 t, .int .i64 q] w fun e w' => e = .returned (.tuple #[.agg #[.int .i64 o1, .int .i64 o2], .int .i64 0]) ∧ Below w.heap.size w w')) (HS : Hid (∀ w : World, Row w a n (iv zs) → Calls Try.prog 21 #[.slice a n c, .int .i64 t, .int .i64 p, .int .i64 nz] w fun e w' => e = .returned (.tuple #[.agg #[.int .i64 s1, .int .i64 s2, .int .i64 s3, .int .i64 s4], .int .i64 0]) ∧ Below w.heap.size w w')) (HT : Hid (∀ (v : Option Addr) (c : Nat) (w : World), Row w v n (iv L) → Calls Try.prog 20 #[.slice v n c, .int .i64 t, .int .i64 q, .int .i64 nz] w fun e w' => e = .returned (.tuple #[.agg #[.int .i64 r1, .int .i64 r2, .int .i64 r3, .int .i64 r4], .int .i64 0]) ∧ Below w.heap.size w w')) (HU : Hid (∀ w : World, Row w a n (iv zs) → Calls Try.prog 39 #[.slice a n c, .int .i64 t, .int .i64 nz] w fun e w' => e = .returned (.tuple #[.agg #[.int .i64 u1, .int .i64 u2, .int .i64 u3, .int .i64 u4], .int .i64 J]) ∧ Below w.heap.size w w')) (HV : Hid (∀ (v : Option Addr) (c : Nat) (w : World), Row w v n (iv L) → Calls Try.prog 39 #[.slice v n c, .int .i64 t, .int .i64 nz] w fun e w' => e = .returned (.tuple #[.agg #[.int .i64 u1, .int .i64 u2, .int .i64 u3, .int .i64 u4], .int .i64 J]) ∧ Below w.heap.size w w')) (HF : Hid (∀ w, Calls Try.prog 23 #[.int .i64 M, .int .i64 1] w fun e w' => e = .returned (.agg #[.int .i64 e1, .int .i64 e2]) ∧ Below w.heap.size w w')) (HZ : Hid (∀ w, Calls Try.prog 50 #[.agg #[.int .i64 e1, .int .i64 e2], .agg #[.int .i64 x1, .int .i64 x2]] w fun e w' => e = .returned (.tuple #[.agg #[.int .i64 o1, .int .i64 o2], .int .i64 0]) ∧ Below w.heap.size w w')) (HL : Hid (∀ w, Calls Try.prog 50 #[.agg #[.int .i64 e1, .int .i64 e2], .agg #[.int .i64 s3, .int .i64 s4]] w fun e w' => e = .returned (.tuple #[.agg #[.int .i64 r1, .int .i64 r2], .int .i64 0]) ∧ Below w.heap.size w w')) (HH : Hid (∀ w, Calls Try.prog 50 #[.agg #[.int .i64 e1, .int .i64 e2], .agg #[.int .i64 s1, .int .i64 s2]] w fun e w' => e = .returned (.tuple #[.agg #[.int .i64 r3, .int .i64 r4], .int .i64 0]) ∧ Below w.heap.size w w')) (HV0 : Hid (∀ w, Row w a n (iv zs) → Calls Try.prog 49 #[.slice a n c] w fun e w' => ∃ v c', e = .returned (.slice v n c') ∧ Row w' v n (iv L) ∧ Below w.heap.size w w')) :
    Calls Try.prog 9 #[.slice a n c, .int .i64 t, .int .i64 p, .int .i64 nz] w fun e w' => e = .returned (.bool true) ∧ Below w.heap.size w w' := by
  have hd : decide (64 < (n : Int)) = false := by simp; omega
  have HR := Lib.hid hR
  clear hR
  go_enter Try.func9, Try.ntmps9
  go_wp2_with fail
  refine (alive_true _).mono ?_
  rintro e w1 ⟨rfl, hb⟩
  have hBw : Below w.heap.size w w1 := by (repeat' first | (with_reducible exact Below.refl _ _) | (with_reducible assumption) | (with_reducible refine belowThru ?_ (by assumption)) | (with_reducible refine belowAlloc ?_))
  have hzw1 := hBw.size
  clear hb
  go_wp2_with fail
  refine (HV0.out _ (HR.out.later (by (repeat' first | (with_reducible exact Below.refl _ _) | (with_reducible assumption) | (with_reducible refine belowThru ?_ (by assumption)) | (with_reducible refine belowAlloc ?_))))).mono ?_
  rintro e w2 ⟨v, c', rfl, hRow, hb⟩
  have HB := Lib.hid hRow
  clear hRow
  replace hBw : Below w.heap.size w w2 := belowThru (by (repeat' first | (with_reducible exact Below.refl _ _) | (with_reducible assumption) | (with_reducible refine belowThru ?_ (by assumption)) | (with_reducible refine belowAlloc ?_))) hb
  have hzw2 := hBw.size
  clear hb
  have hb1 : Below w2.heap.size w2 w2 := Below.refl _ _
  go_wp2_with fail
  refine (HX.out _ (HR.out.later (by (repeat' first | (with_reducible exact Below.refl _ _) | (with_reducible assumption) | (with_reducible refine belowThru ?_ (by assumption)) | (with_reducible refine belowAlloc ?_))))).mono ?_
  rintro e w3 ⟨rfl, hb⟩
  replace hb1 : Below w2.heap.size w2 w3 := belowThru (by (repeat' first | (with_reducible exact Below.refl _ _) | (with_reducible assumption) | (with_reducible refine belowThru ?_ (by assumption)) | (with_reducible refine belowAlloc ?_))) hb
  replace hBw : Below w.heap.size w w3 := belowThru (by (repeat' first | (with_reducible exact Below.refl _ _) | (with_reducible assumption) | (with_reducible refine belowThru ?_ (by assumption)) | (with_reducible refine belowAlloc ?_))) hb
  have hzw3 := hBw.size
  clear hb
  go_wp2_with fail
  refine (HY.out _ _ _ (HB.out.later (by (repeat' first | (with_reducible exact Below.refl _ _) | (with_reducible assumption) | (with_reducible refine belowThru ?_ (by assumption)) | (with_reducible refine belowAlloc ?_))))).mono ?_
  rintro e w4 ⟨rfl, hb⟩
  replace hb1 : Below w2.heap.size w2 w4 := belowThru (by (repeat' first | (with_reducible exact Below.refl _ _) | (with_reducible assumption) | (with_reducible refine belowThru ?_ (by assumption)) | (with_reducible refine belowAlloc ?_))) hb
  have kn0 : Blk w4 (w3.heap.size) #[.int .i64 x1, .int .i64 x2] 23 := Blk.later hb (by (repeat' first | (with_reducible assumption) | ((with_reducible refine Blk.new ?_); first | rfl | (simp; done)) | (with_reducible refine Blk.alloc ?_)))
  have k0 := kn0; clear kn0; obtain ⟨a0, b0⟩ := k0.read; have y0 := k0.lt
  replace hBw : Below w.heap.size w w4 := belowThru (by (repeat' first | (with_reducible exact Below.refl _ _) | (with_reducible assumption) | (with_reducible refine belowThru ?_ (by assumption)) | (with_reducible refine belowAlloc ?_))) hb
  have hzw4 := hBw.size
  clear hb
  go_wp2_with fail
  refine (HS.out _ (HR.out.later (by (repeat' first | (with_reducible exact Below.refl _ _) | (with_reducible assumption) | (with_reducible refine belowThru ?_ (by assumption)) | (with_reducible refine belowAlloc ?_))))).mono ?_
  rintro e w5 ⟨rfl, hb⟩
  replace hb1 : Below w2.heap.size w2 w5 := belowThru (by (repeat' first | (with_reducible exact Below.refl _ _) | (with_reducible assumption) | (with_reducible refine belowThru ?_ (by assumption)) | (with_reducible refine belowAlloc ?_))) hb
  have kn0 : Blk w5 (w3.heap.size) #[.int .i64 x1, .int .i64 x2] 23 := Blk.later hb (by (repeat' first | (with_reducible assumption) | ((with_reducible refine Blk.new ?_); first | rfl | (simp; done)) | (with_reducible refine Blk.alloc ?_)))
  have kn1 : Blk w5 (w4.heap.size) #[.int .i64 o1, .int .i64 o2] 23 := Blk.later hb (by (repeat' first | (with_reducible assumption) | ((with_reducible refine Blk.new ?_); first | rfl | (simp; done)) | (with_reducible refine Blk.alloc ?_)))
  clear k0 a0 b0 y0
  have k0 := kn0; clear kn0; obtain ⟨a0, b0⟩ := k0.read; have y0 := k0.lt
  have k1 := kn1; clear kn1; obtain ⟨a1, b1⟩ := k1.read; have y1 := k1.lt
  replace hBw : Below w.heap.size w w5 := belowThru (by (repeat' first | (with_reducible exact Below.refl _ _) | (with_reducible assumption) | (with_reducible refine belowThru ?_ (by assumption)) | (with_reducible refine belowAlloc ?_))) hb
  have hzw5 := hBw.size
  clear hb
  go_wp2_with fail
  refine (HT.out _ _ _ (HB.out.later (by (repeat' first | (with_reducible exact Below.refl _ _) | (with_reducible assumption) | (with_reducible refine belowThru ?_ (by assumption)) | (with_reducible refine belowAlloc ?_))))).mono ?_
  rintro e w6 ⟨rfl, hb⟩
  replace hb1 : Below w2.heap.size w2 w6 := belowThru (by (repeat' first | (with_reducible exact Below.refl _ _) | (with_reducible assumption) | (with_reducible refine belowThru ?_ (by assumption)) | (with_reducible refine belowAlloc ?_))) hb
  have kn0 : Blk w6 (w3.heap.size) #[.int .i64 x1, .int .i64 x2] 23 := Blk.later hb (by (repeat' first | (with_reducible assumption) | ((with_reducible refine Blk.new ?_); first | rfl | (simp; done)) | (with_reducible refine Blk.alloc ?_)))
  have kn1 : Blk w6 (w4.heap.size) #[.int .i64 o1, .int .i64 o2] 23 := Blk.later hb (by (repeat' first | (with_reducible assumption) | ((with_reducible refine Blk.new ?_); first | rfl | (simp; done)) | (with_reducible refine Blk.alloc ?_)))
  have kn2 : Blk w6 (w5.heap.size) #[.int .i64 s1, .int .i64 s2, .int .i64 s3, .int .i64 s4] 30 := Blk.later hb (by (repeat' first | (with_reducible assumption) | ((with_reducible refine Blk.new ?_); first | rfl | (simp; done)) | (with_reducible refine Blk.alloc ?_)))
  clear k0 a0 b0 y0
  clear k1 a1 b1 y1
  have k0 := kn0; clear kn0; obtain ⟨a0, b0⟩ := k0.read; have y0 := k0.lt
  have k1 := kn1; clear kn1; obtain ⟨a1, b1⟩ := k1.read; have y1 := k1.lt
  have k2 := kn2; clear kn2; obtain ⟨a2, b2⟩ := k2.read; have y2 := k2.lt
  replace hBw : Below w.heap.size w w6 := belowThru (by (repeat' first | (with_reducible exact Below.refl _ _) | (with_reducible assumption) | (with_reducible refine belowThru ?_ (by assumption)) | (with_reducible refine belowAlloc ?_))) hb
  have hzw6 := hBw.size
  clear hb
  go_wp2_with fail
  refine (HU.out _ (HR.out.later (by (repeat' first | (with_reducible exact Below.refl _ _) | (with_reducible assumption) | (with_reducible refine belowThru ?_ (by assumption)) | (with_reducible refine belowAlloc ?_))))).mono ?_
  rintro e w7 ⟨rfl, hb⟩
  replace hb1 : Below w2.heap.size w2 w7 := belowThru (by (repeat' first | (with_reducible exact Below.refl _ _) | (with_reducible assumption) | (with_reducible refine belowThru ?_ (by assumption)) | (with_reducible refine belowAlloc ?_))) hb
  have kn0 : Blk w7 (w3.heap.size) #[.int .i64 x1, .int .i64 x2] 23 := Blk.later hb (by (repeat' first | (with_reducible assumption) | ((with_reducible refine Blk.new ?_); first | rfl | (simp; done)) | (with_reducible refine Blk.alloc ?_)))
  have kn1 : Blk w7 (w4.heap.size) #[.int .i64 o1, .int .i64 o2] 23 := Blk.later hb (by (repeat' first | (with_reducible assumption) | ((with_reducible refine Blk.new ?_); first | rfl | (simp; done)) | (with_reducible refine Blk.alloc ?_)))
  have kn2 : Blk w7 (w5.heap.size) #[.int .i64 s1, .int .i64 s2, .int .i64 s3, .int .i64 s4] 30 := Blk.later hb (by (repeat' first | (with_reducible assumption) | ((with_reducible refine Blk.new ?_); first | rfl | (simp; done)) | (with_reducible refine Blk.alloc ?_)))
  have kn3 : Blk w7 (w6.heap.size) #[.int .i64 r1, .int .i64 r2, .int .i64 r3, .int .i64 r4] 30 := Blk.later hb (by (repeat' first | (with_reducible assumption) | ((with_reducible refine Blk.new ?_); first | rfl | (simp; done)) | (with_reducible refine Blk.alloc ?_)))
  clear k0 a0 b0 y0
  clear k1 a1 b1 y1
  clear k2 a2 b2 y2
  have k0 := kn0; clear kn0; obtain ⟨a0, b0⟩ := k0.read; have y0 := k0.lt
  have k1 := kn1; clear kn1; obtain ⟨a1, b1⟩ := k1.read; have y1 := k1.lt
  have k2 := kn2; clear kn2; obtain ⟨a2, b2⟩ := k2.read; have y2 := k2.lt
  have k3 := kn3; clear kn3; obtain ⟨a3, b3⟩ := k3.read; have y3 := k3.lt
  replace hBw : Below w.heap.size w w7 := belowThru (by (repeat' first | (with_reducible exact Below.refl _ _) | (with_reducible assumption) | (with_reducible refine belowThru ?_ (by assumption)) | (with_reducible refine belowAlloc ?_))) hb
  have hzw7 := hBw.size
  clear hb
  go_wp2_with fail
  refine (HV.out _ _ _ (HB.out.later (by (repeat' first | (with_reducible exact Below.refl _ _) | (with_reducible assumption) | (with_reducible refine belowThru ?_ (by assumption)) | (with_reducible refine belowAlloc ?_))))).mono ?_
  rintro e w8 ⟨rfl, hb⟩
  replace hb1 : Below w2.heap.size w2 w8 := belowThru (by (repeat' first | (with_reducible exact Below.refl _ _) | (with_reducible assumption) | (with_reducible refine belowThru ?_ (by assumption)) | (with_reducible refine belowAlloc ?_))) hb
  have kn0 : Blk w8 (w3.heap.size) #[.int .i64 x1, .int .i64 x2] 23 := Blk.later hb (by (repeat' first | (with_reducible assumption) | ((with_reducible refine Blk.new ?_); first | rfl | (simp; done)) | (with_reducible refine Blk.alloc ?_)))
  have kn1 : Blk w8 (w4.heap.size) #[.int .i64 o1, .int .i64 o2] 23 := Blk.later hb (by (repeat' first | (with_reducible assumption) | ((with_reducible refine Blk.new ?_); first | rfl | (simp; done)) | (with_reducible refine Blk.alloc ?_)))
  have kn2 : Blk w8 (w5.heap.size) #[.int .i64 s1, .int .i64 s2, .int .i64 s3, .int .i64 s4] 30 := Blk.later hb (by (repeat' first | (with_reducible assumption) | ((with_reducible refine Blk.new ?_); first | rfl | (simp; done)) | (with_reducible refine Blk.alloc ?_)))
  have kn3 : Blk w8 (w6.heap.size) #[.int .i64 r1, .int .i64 r2, .int .i64 r3, .int .i64 r4] 30 := Blk.later hb (by (repeat' first | (with_reducible assumption) | ((with_reducible refine Blk.new ?_); first | rfl | (simp; done)) | (with_reducible refine Blk.alloc ?_)))
  have kn4 : Blk w8 (w7.heap.size) #[.int .i64 u1, .int .i64 u2, .int .i64 u3, .int .i64 u4] 30 := Blk.later hb (by (repeat' first | (with_reducible assumption) | ((with_reducible refine Blk.new ?_); first | rfl | (simp; done)) | (with_reducible refine Blk.alloc ?_)))
  clear k0 a0 b0 y0
  clear k1 a1 b1 y1
  clear k2 a2 b2 y2
  clear k3 a3 b3 y3
  have k0 := kn0; clear kn0; obtain ⟨a0, b0⟩ := k0.read; have y0 := k0.lt
  have k1 := kn1; clear kn1; obtain ⟨a1, b1⟩ := k1.read; have y1 := k1.lt
  have k2 := kn2; clear kn2; obtain ⟨a2, b2⟩ := k2.read; have y2 := k2.lt
  have k3 := kn3; clear kn3; obtain ⟨a3, b3⟩ := k3.read; have y3 := k3.lt
  have k4 := kn4; clear kn4; obtain ⟨a4, b4⟩ := k4.read; have y4 := k4.lt
  replace hBw : Below w.heap.size w w8 := belowThru (by (repeat' first | (with_reducible exact Below.refl _ _) | (with_reducible assumption) | (with_reducible refine belowThru ?_ (by assumption)) | (with_reducible refine belowAlloc ?_))) hb
  have hzw8 := hBw.size
  clear hb
  go_wp2_with fail
  refine (HF.out _).mono ?_
  rintro e w9 ⟨rfl, hb⟩
  replace hb1 : Below w2.heap.size w2 w9 := belowThru (by (repeat' first | (with_reducible exact Below.refl _ _) | (with_reducible assumption) | (with_reducible refine belowThru ?_ (by assumption)) | (with_reducible refine belowAlloc ?_))) hb
  have kn0 : Blk w9 (w3.heap.size) #[.int .i64 x1, .int .i64 x2] 23 := Blk.later hb (by (repeat' first | (with_reducible assumption) | ((with_reducible refine Blk.new ?_); first | rfl | (simp; done)) | (with_reducible refine Blk.alloc ?_)))
  have kn1 : Blk w9 (w4.heap.size) #[.int .i64 o1, .int .i64 o2] 23 := Blk.later hb (by (repeat' first | (with_reducible assumption) | ((with_reducible refine Blk.new ?_); first | rfl | (simp; done)) | (with_reducible refine Blk.alloc ?_)))
  have kn2 : Blk w9 (w5.heap.size) #[.int .i64 s1, .int .i64 s2, .int .i64 s3, .int .i64 s4] 30 := Blk.later hb (by (repeat' first | (with_reducible assumption) | ((with_reducible refine Blk.new ?_); first | rfl | (simp; done)) | (with_reducible refine Blk.alloc ?_)))
  have kn3 : Blk w9 (w6.heap.size) #[.int .i64 r1, .int .i64 r2, .int .i64 r3, .int .i64 r4] 30 := Blk.later hb (by (repeat' first | (with_reducible assumption) | ((with_reducible refine Blk.new ?_); first | rfl | (simp; done)) | (with_reducible refine Blk.alloc ?_)))
  have kn4 : Blk w9 (w7.heap.size) #[.int .i64 u1, .int .i64 u2, .int .i64 u3, .int .i64 u4] 30 := Blk.later hb (by (repeat' first | (with_reducible assumption) | ((with_reducible refine Blk.new ?_); first | rfl | (simp; done)) | (with_reducible refine Blk.alloc ?_)))
  have kn5 : Blk w9 (w8.heap.size) #[.int .i64 u1, .int .i64 u2, .int .i64 u3, .int .i64 u4] 30 := Blk.later hb (by (repeat' first | (with_reducible assumption) | ((with_reducible refine Blk.new ?_); first | rfl | (simp; done)) | (with_reducible refine Blk.alloc ?_)))
  clear k0 a0 b0 y0
  clear k1 a1 b1 y1
  clear k2 a2 b2 y2
  clear k3 a3 b3 y3
  clear k4 a4 b4 y4
  have k0 := kn0; clear kn0; obtain ⟨a0, b0⟩ := k0.read; have y0 := k0.lt
  have k1 := kn1; clear kn1; obtain ⟨a1, b1⟩ := k1.read; have y1 := k1.lt
  have k2 := kn2; clear kn2; obtain ⟨a2, b2⟩ := k2.read; have y2 := k2.lt
  have k3 := kn3; clear kn3; obtain ⟨a3, b3⟩ := k3.read; have y3 := k3.lt
  have k4 := kn4; clear kn4; obtain ⟨a4, b4⟩ := k4.read; have y4 := k4.lt
  have k5 := kn5; clear kn5; obtain ⟨a5, b5⟩ := k5.read; have y5 := k5.lt
  replace hBw : Below w.heap.size w w9 := belowThru (by (repeat' first | (with_reducible exact Below.refl _ _) | (with_reducible assumption) | (with_reducible refine belowThru ?_ (by assumption)) | (with_reducible refine belowAlloc ?_))) hb
  have hzw9 := hBw.size
  clear hb
  go_wp2_with fail
  refine (HZ.out _).mono ?_
  rintro e w10 ⟨rfl, hb⟩
  replace hb1 : Below w2.heap.size w2 w10 := belowThru (by (repeat' first | (with_reducible exact Below.refl _ _) | (with_reducible assumption) | (with_reducible refine belowThru ?_ (by assumption)) | (with_reducible refine belowAlloc ?_))) hb
  have kn0 : Blk w10 (w3.heap.size) #[.int .i64 x1, .int .i64 x2] 23 := Blk.later hb (by (repeat' first | (with_reducible assumption) | ((with_reducible refine Blk.new ?_); first | rfl | (simp; done)) | (with_reducible refine Blk.alloc ?_)))
  have kn1 : Blk w10 (w4.heap.size) #[.int .i64 o1, .int .i64 o2] 23 := Blk.later hb (by (repeat' first | (with_reducible assumption) | ((with_reducible refine Blk.new ?_); first | rfl | (simp; done)) | (with_reducible refine Blk.alloc ?_)))
  have kn2 : Blk w10 (w5.heap.size) #[.int .i64 s1, .int .i64 s2, .int .i64 s3, .int .i64 s4] 30 := Blk.later hb (by (repeat' first | (with_reducible assumption) | ((with_reducible refine Blk.new ?_); first | rfl | (simp; done)) | (with_reducible refine Blk.alloc ?_)))
  have kn3 : Blk w10 (w6.heap.size) #[.int .i64 r1, .int .i64 r2, .int .i64 r3, .int .i64 r4] 30 := Blk.later hb (by (repeat' first | (with_reducible assumption) | ((with_reducible refine Blk.new ?_); first | rfl | (simp; done)) | (with_reducible refine Blk.alloc ?_)))
  have kn4 : Blk w10 (w7.heap.size) #[.int .i64 u1, .int .i64 u2, .int .i64 u3, .int .i64 u4] 30 := Blk.later hb (by (repeat' first | (with_reducible assumption) | ((with_reducible refine Blk.new ?_); first | rfl | (simp; done)) | (with_reducible refine Blk.alloc ?_)))
  have kn5 : Blk w10 (w8.heap.size) #[.int .i64 u1, .int .i64 u2, .int .i64 u3, .int .i64 u4] 30 := Blk.later hb (by (repeat' first | (with_reducible assumption) | ((with_reducible refine Blk.new ?_); first | rfl | (simp; done)) | (with_reducible refine Blk.alloc ?_)))
  have kn6 : Blk w10 (w9.heap.size) #[.int .i64 e1, .int .i64 e2] 23 := Blk.later hb (by (repeat' first | (with_reducible assumption) | ((with_reducible refine Blk.new ?_); first | rfl | (simp; done)) | (with_reducible refine Blk.alloc ?_)))
  clear k0 a0 b0 y0
  clear k1 a1 b1 y1
  clear k2 a2 b2 y2
  clear k3 a3 b3 y3
  clear k4 a4 b4 y4
  clear k5 a5 b5 y5
  have k0 := kn0; clear kn0; obtain ⟨a0, b0⟩ := k0.read; have y0 := k0.lt
  have k1 := kn1; clear kn1; obtain ⟨a1, b1⟩ := k1.read; have y1 := k1.lt
  have k2 := kn2; clear kn2; obtain ⟨a2, b2⟩ := k2.read; have y2 := k2.lt
  have k3 := kn3; clear kn3; obtain ⟨a3, b3⟩ := k3.read; have y3 := k3.lt
  have k4 := kn4; clear kn4; obtain ⟨a4, b4⟩ := k4.read; have y4 := k4.lt
  have k5 := kn5; clear kn5; obtain ⟨a5, b5⟩ := k5.read; have y5 := k5.lt
  have k6 := kn6; clear kn6; obtain ⟨a6, b6⟩ := k6.read; have y6 := k6.lt
  replace hBw : Below w.heap.size w w10 := belowThru (by (repeat' first | (with_reducible exact Below.refl _ _) | (with_reducible assumption) | (with_reducible refine belowThru ?_ (by assumption)) | (with_reducible refine belowAlloc ?_))) hb
  have hzw10 := hBw.size
  clear hb
  go_wp2_with fail
  refine (HL.out _).mono ?_
  rintro e w11 ⟨rfl, hb⟩
  replace hb1 : Below w2.heap.size w2 w11 := belowThru (by (repeat' first | (with_reducible exact Below.refl _ _) | (with_reducible assumption) | (with_reducible refine belowThru ?_ (by assumption)) | (with_reducible refine belowAlloc ?_))) hb
  have kn0 : Blk w11 (w3.heap.size) #[.int .i64 x1, .int .i64 x2] 23 := Blk.later hb (by (repeat' first | (with_reducible assumption) | ((with_reducible refine Blk.new ?_); first | rfl | (simp; done)) | (with_reducible refine Blk.alloc ?_)))
  have kn1 : Blk w11 (w4.heap.size) #[.int .i64 o1, .int .i64 o2] 23 := Blk.later hb (by (repeat' first | (with_reducible assumption) | ((with_reducible refine Blk.new ?_); first | rfl | (simp; done)) | (with_reducible refine Blk.alloc ?_)))
  have kn2 : Blk w11 (w5.heap.size) #[.int .i64 s1, .int .i64 s2, .int .i64 s3, .int .i64 s4] 30 := Blk.later hb (by (repeat' first | (with_reducible assumption) | ((with_reducible refine Blk.new ?_); first | rfl | (simp; done)) | (with_reducible refine Blk.alloc ?_)))
  have kn3 : Blk w11 (w6.heap.size) #[.int .i64 r1, .int .i64 r2, .int .i64 r3, .int .i64 r4] 30 := Blk.later hb (by (repeat' first | (with_reducible assumption) | ((with_reducible refine Blk.new ?_); first | rfl | (simp; done)) | (with_reducible refine Blk.alloc ?_)))
  have kn4 : Blk w11 (w7.heap.size) #[.int .i64 u1, .int .i64 u2, .int .i64 u3, .int .i64 u4] 30 := Blk.later hb (by (repeat' first | (with_reducible assumption) | ((with_reducible refine Blk.new ?_); first | rfl | (simp; done)) | (with_reducible refine Blk.alloc ?_)))
  have kn5 : Blk w11 (w8.heap.size) #[.int .i64 u1, .int .i64 u2, .int .i64 u3, .int .i64 u4] 30 := Blk.later hb (by (repeat' first | (with_reducible assumption) | ((with_reducible refine Blk.new ?_); first | rfl | (simp; done)) | (with_reducible refine Blk.alloc ?_)))
  have kn6 : Blk w11 (w9.heap.size) #[.int .i64 e1, .int .i64 e2] 23 := Blk.later hb (by (repeat' first | (with_reducible assumption) | ((with_reducible refine Blk.new ?_); first | rfl | (simp; done)) | (with_reducible refine Blk.alloc ?_)))
  have kn7 : Blk w11 (w10.heap.size) #[.int .i64 o1, .int .i64 o2] 23 := Blk.later hb (by (repeat' first | (with_reducible assumption) | ((with_reducible refine Blk.new ?_); first | rfl | (simp; done)) | (with_reducible refine Blk.alloc ?_)))
  clear k0 a0 b0 y0
  clear k1 a1 b1 y1
  clear k2 a2 b2 y2
  clear k3 a3 b3 y3
  clear k4 a4 b4 y4
  clear k5 a5 b5 y5
  clear k6 a6 b6 y6
  have k0 := kn0; clear kn0; obtain ⟨a0, b0⟩ := k0.read; have y0 := k0.lt
  have k1 := kn1; clear kn1; obtain ⟨a1, b1⟩ := k1.read; have y1 := k1.lt
  have k2 := kn2; clear kn2; obtain ⟨a2, b2⟩ := k2.read; have y2 := k2.lt
  have k3 := kn3; clear kn3; obtain ⟨a3, b3⟩ := k3.read; have y3 := k3.lt
  have k4 := kn4; clear kn4; obtain ⟨a4, b4⟩ := k4.read; have y4 := k4.lt
  have k5 := kn5; clear kn5; obtain ⟨a5, b5⟩ := k5.read; have y5 := k5.lt
  have k6 := kn6; clear kn6; obtain ⟨a6, b6⟩ := k6.read; have y6 := k6.lt
  have k7 := kn7; clear kn7; obtain ⟨a7, b7⟩ := k7.read; have y7 := k7.lt
  replace hBw : Below w.heap.size w w11 := belowThru (by (repeat' first | (with_reducible exact Below.refl _ _) | (with_reducible assumption) | (with_reducible refine belowThru ?_ (by assumption)) | (with_reducible refine belowAlloc ?_))) hb
  have hzw11 := hBw.size
  clear hb
  go_wp2_with fail
  refine (HH.out _).mono ?_
  rintro e w12 ⟨rfl, hb⟩
  replace hb1 : Below w2.heap.size w2 w12 := belowThru (by (repeat' first | (with_reducible exact Below.refl _ _) | (with_reducible assumption) | (with_reducible refine belowThru ?_ (by assumption)) | (with_reducible refine belowAlloc ?_))) hb
  have kn0 : Blk w12 (w3.heap.size) #[.int .i64 x1, .int .i64 x2] 23 := Blk.later hb (by (repeat' first | (with_reducible assumption) | ((with_reducible refine Blk.new ?_); first | rfl | (simp; done)) | (with_reducible refine Blk.alloc ?_)))
  have kn1 : Blk w12 (w4.heap.size) #[.int .i64 o1, .int .i64 o2] 23 := Blk.later hb (by (repeat' first | (with_reducible assumption) | ((with_reducible refine Blk.new ?_); first | rfl | (simp; done)) | (with_reducible refine Blk.alloc ?_)))
  have kn2 : Blk w12 (w5.heap.size) #[.int .i64 s1, .int .i64 s2, .int .i64 s3, .int .i64 s4] 30 := Blk.later hb (by (repeat' first | (with_reducible assumption) | ((with_reducible refine Blk.new ?_); first | rfl | (simp; done)) | (with_reducible refine Blk.alloc ?_)))
  have kn3 : Blk w12 (w6.heap.size) #[.int .i64 r1, .int .i64 r2, .int .i64 r3, .int .i64 r4] 30 := Blk.later hb (by (repeat' first | (with_reducible assumption) | ((with_reducible refine Blk.new ?_); first | rfl | (simp; done)) | (with_reducible refine Blk.alloc ?_)))
  have kn4 : Blk w12 (w7.heap.size) #[.int .i64 u1, .int .i64 u2, .int .i64 u3, .int .i64 u4] 30 := Blk.later hb (by (repeat' first | (with_reducible assumption) | ((with_reducible refine Blk.new ?_); first | rfl | (simp; done)) | (with_reducible refine Blk.alloc ?_)))
  have kn5 : Blk w12 (w8.heap.size) #[.int .i64 u1, .int .i64 u2, .int .i64 u3, .int .i64 u4] 30 := Blk.later hb (by (repeat' first | (with_reducible assumption) | ((with_reducible refine Blk.new ?_); first | rfl | (simp; done)) | (with_reducible refine Blk.alloc ?_)))
  have kn6 : Blk w12 (w9.heap.size) #[.int .i64 e1, .int .i64 e2] 23 := Blk.later hb (by (repeat' first | (with_reducible assumption) | ((with_reducible refine Blk.new ?_); first | rfl | (simp; done)) | (with_reducible refine Blk.alloc ?_)))
  have kn7 : Blk w12 (w10.heap.size) #[.int .i64 o1, .int .i64 o2] 23 := Blk.later hb (by (repeat' first | (with_reducible assumption) | ((with_reducible refine Blk.new ?_); first | rfl | (simp; done)) | (with_reducible refine Blk.alloc ?_)))
  have kn8 : Blk w12 (w11.heap.size) #[.int .i64 r1, .int .i64 r2] 23 := Blk.later hb (by (repeat' first | (with_reducible assumption) | ((with_reducible refine Blk.new ?_); first | rfl | (simp; done)) | (with_reducible refine Blk.alloc ?_)))
  clear k0 a0 b0 y0
  clear k1 a1 b1 y1
  clear k2 a2 b2 y2
  clear k3 a3 b3 y3
  clear k4 a4 b4 y4
  clear k5 a5 b5 y5
  clear k6 a6 b6 y6
  clear k7 a7 b7 y7
  have k0 := kn0; clear kn0; obtain ⟨a0, b0⟩ := k0.read; have y0 := k0.lt
  have k1 := kn1; clear kn1; obtain ⟨a1, b1⟩ := k1.read; have y1 := k1.lt
  have k2 := kn2; clear kn2; obtain ⟨a2, b2⟩ := k2.read; have y2 := k2.lt
  have k3 := kn3; clear kn3; obtain ⟨a3, b3⟩ := k3.read; have y3 := k3.lt
  have k4 := kn4; clear kn4; obtain ⟨a4, b4⟩ := k4.read; have y4 := k4.lt
  have k5 := kn5; clear kn5; obtain ⟨a5, b5⟩ := k5.read; have y5 := k5.lt
  have k6 := kn6; clear kn6; obtain ⟨a6, b6⟩ := k6.read; have y6 := k6.lt
  have k7 := kn7; clear kn7; obtain ⟨a7, b7⟩ := k7.read; have y7 := k7.lt
  have k8 := kn8; clear kn8; obtain ⟨a8, b8⟩ := k8.read; have y8 := k8.lt
  replace hBw : Below w.heap.size w w12 := belowThru (by (repeat' first | (with_reducible exact Below.refl _ _) | (with_reducible assumption) | (with_reducible refine belowThru ?_ (by assumption)) | (with_reducible refine belowAlloc ?_))) hb
  have hzw12 := hBw.size
  clear hb
  go_wp2_with fail
  go_ret
  exact ⟨rfl, by (repeat' first | (with_reducible exact Below.refl _ _) | (with_reducible assumption) | (with_reducible refine belowThru ?_ (by assumption)) | (with_reducible refine belowAlloc ?_))⟩
set_option maxRecDepth 100000 in
set_option maxHeartbeats 16000000 in
theorem mirror_01 (a : Option Addr) (n c : Nat) (zs : List Int) (t p nz : Int) (w : World) (hR : Row w a n (iv zs)) (hl : n ≤ 64) (L : List Int) (M q x1 x2 o1 o2 z1 z2 s1 s2 s3 s4 r1 r2 r3 r4 u1 u2 u3 u4 e1 e2 lo1 lo2 hi1 hi2 E G J K Q V : Int) (hM : IntKind.i64.wrap ((n : Int) - 1) = M) (hq : IntKind.i64.wrap (M - p) = q) (hG : (G != 0) = true)
    (HX : Hid (∀ w : World, Row w a n (iv zs) → Calls Try.prog 17 #[.slice a n c, .int .i64 t, .int .i64 p] w fun e w' => e = .returned (.tuple #[.agg #[.int .i64 x1, .int .i64 x2], .int .i64 0]) ∧ Below w.heap.size w w')) (HY : Hid (∀ (v : Option Addr) (c : Nat) (w : World), Row w v n (iv L) → Calls Try.prog 19 #[.slice v n c, .int .i64 t, .int .i64 q] w fun e w' => e = .returned (.tuple #[.agg #[.int .i64 o1, .int .i64 o2], .int .i64 0]) ∧ Below w.heap.size w w')) (HS : Hid (∀ w : World, Row w a n (iv zs) → Calls Try.prog 21 #[.slice a n c, .int .i64 t, .int .i64 p, .int .i64 nz] w fun e w' => e = .returned (.tuple #[.agg #[.int .i64 s1, .int .i64 s2, .int .i64 s3, .int .i64 s4], .int .i64 G]) ∧ Below w.heap.size w w')) (HT : Hid (∀ (v : Option Addr) (c : Nat) (w : World), Row w v n (iv L) → Calls Try.prog 20 #[.slice v n c, .int .i64 t, .int .i64 q, .int .i64 nz] w fun e w' => e = .returned (.tuple #[.agg #[.int .i64 r1, .int .i64 r2, .int .i64 r3, .int .i64 r4], .int .i64 G]) ∧ Below w.heap.size w w')) (HU : Hid (∀ w : World, Row w a n (iv zs) → Calls Try.prog 39 #[.slice a n c, .int .i64 t, .int .i64 nz] w fun e w' => e = .returned (.tuple #[.agg #[.int .i64 u1, .int .i64 u2, .int .i64 u3, .int .i64 u4], .int .i64 J]) ∧ Below w.heap.size w w')) (HV : Hid (∀ (v : Option Addr) (c : Nat) (w : World), Row w v n (iv L) → Calls Try.prog 39 #[.slice v n c, .int .i64 t, .int .i64 nz] w fun e w' => e = .returned (.tuple #[.agg #[.int .i64 u1, .int .i64 u2, .int .i64 u3, .int .i64 u4], .int .i64 J]) ∧ Below w.heap.size w w')) (HF : Hid (∀ w, Calls Try.prog 23 #[.int .i64 M, .int .i64 1] w fun e w' => e = .returned (.agg #[.int .i64 e1, .int .i64 e2]) ∧ Below w.heap.size w w')) (HZ : Hid (∀ w, Calls Try.prog 50 #[.agg #[.int .i64 e1, .int .i64 e2], .agg #[.int .i64 x1, .int .i64 x2]] w fun e w' => e = .returned (.tuple #[.agg #[.int .i64 o1, .int .i64 o2], .int .i64 0]) ∧ Below w.heap.size w w')) (HL : Hid (∀ w, Calls Try.prog 50 #[.agg #[.int .i64 e1, .int .i64 e2], .agg #[.int .i64 s3, .int .i64 s4]] w fun e w' => e = .returned (.tuple #[.agg #[.int .i64 lo1, .int .i64 lo2], .int .i64 Q]) ∧ Below w.heap.size w w')) (HH : Hid (∀ w, Calls Try.prog 50 #[.agg #[.int .i64 e1, .int .i64 e2], .agg #[.int .i64 s1, .int .i64 s2]] w fun e w' => e = .returned (.tuple #[.agg #[.int .i64 hi1, .int .i64 hi2], .int .i64 V]) ∧ Below w.heap.size w w')) (HV0 : Hid (∀ w, Row w a n (iv zs) → Calls Try.prog 49 #[.slice a n c] w fun e w' => ∃ v c', e = .returned (.slice v n c') ∧ Row w' v n (iv L) ∧ Below w.heap.size w w')) :
    Calls Try.prog 9 #[.slice a n c, .int .i64 t, .int .i64 p, .int .i64 nz] w fun e w' => e = .returned (.bool true) ∧ Below w.heap.size w w' := by
  have hd : decide (64 < (n : Int)) = false := by simp; omega
  have HR := Lib.hid hR
  clear hR
  go_enter Try.func9, Try.ntmps9
  go_wp2_with fail
  refine (alive_true _).mono ?_
  rintro e w1 ⟨rfl, hb⟩
  have hBw : Below w.heap.size w w1 := by (repeat' first | (with_reducible exact Below.refl _ _) | (with_reducible assumption) | (with_reducible refine belowThru ?_ (by assumption)) | (with_reducible refine belowAlloc ?_))
  have hzw1 := hBw.size
  clear hb
  go_wp2_with fail
  refine (HV0.out _ (HR.out.later (by (repeat' first | (with_reducible exact Below.refl _ _) | (with_reducible assumption) | (with_reducible refine belowThru ?_ (by assumption)) | (with_reducible refine belowAlloc ?_))))).mono ?_
  rintro e w2 ⟨v, c', rfl, hRow, hb⟩
  have HB := Lib.hid hRow
  clear hRow
  replace hBw : Below w.heap.size w w2 := belowThru (by (repeat' first | (with_reducible exact Below.refl _ _) | (with_reducible assumption) | (with_reducible refine belowThru ?_ (by assumption)) | (with_reducible refine belowAlloc ?_))) hb
  have hzw2 := hBw.size
  clear hb
  have hb1 : Below w2.heap.size w2 w2 := Below.refl _ _
  go_wp2_with fail
  refine (HX.out _ (HR.out.later (by (repeat' first | (with_reducible exact Below.refl _ _) | (with_reducible assumption) | (with_reducible refine belowThru ?_ (by assumption)) | (with_reducible refine belowAlloc ?_))))).mono ?_
  rintro e w3 ⟨rfl, hb⟩
  replace hb1 : Below w2.heap.size w2 w3 := belowThru (by (repeat' first | (with_reducible exact Below.refl _ _) | (with_reducible assumption) | (with_reducible refine belowThru ?_ (by assumption)) | (with_reducible refine belowAlloc ?_))) hb
  replace hBw : Below w.heap.size w w3 := belowThru (by (repeat' first | (with_reducible exact Below.refl _ _) | (with_reducible assumption) | (with_reducible refine belowThru ?_ (by assumption)) | (with_reducible refine belowAlloc ?_))) hb
  have hzw3 := hBw.size
  clear hb
  go_wp2_with fail
  refine (HY.out _ _ _ (HB.out.later (by (repeat' first | (with_reducible exact Below.refl _ _) | (with_reducible assumption) | (with_reducible refine belowThru ?_ (by assumption)) | (with_reducible refine belowAlloc ?_))))).mono ?_
  rintro e w4 ⟨rfl, hb⟩
  replace hb1 : Below w2.heap.size w2 w4 := belowThru (by (repeat' first | (with_reducible exact Below.refl _ _) | (with_reducible assumption) | (with_reducible refine belowThru ?_ (by assumption)) | (with_reducible refine belowAlloc ?_))) hb
  have kn0 : Blk w4 (w3.heap.size) #[.int .i64 x1, .int .i64 x2] 23 := Blk.later hb (by (repeat' first | (with_reducible assumption) | ((with_reducible refine Blk.new ?_); first | rfl | (simp; done)) | (with_reducible refine Blk.alloc ?_)))
  have k0 := kn0; clear kn0; obtain ⟨a0, b0⟩ := k0.read; have y0 := k0.lt
  replace hBw : Below w.heap.size w w4 := belowThru (by (repeat' first | (with_reducible exact Below.refl _ _) | (with_reducible assumption) | (with_reducible refine belowThru ?_ (by assumption)) | (with_reducible refine belowAlloc ?_))) hb
  have hzw4 := hBw.size
  clear hb
  go_wp2_with fail
  refine (HS.out _ (HR.out.later (by (repeat' first | (with_reducible exact Below.refl _ _) | (with_reducible assumption) | (with_reducible refine belowThru ?_ (by assumption)) | (with_reducible refine belowAlloc ?_))))).mono ?_
  rintro e w5 ⟨rfl, hb⟩
  replace hb1 : Below w2.heap.size w2 w5 := belowThru (by (repeat' first | (with_reducible exact Below.refl _ _) | (with_reducible assumption) | (with_reducible refine belowThru ?_ (by assumption)) | (with_reducible refine belowAlloc ?_))) hb
  have kn0 : Blk w5 (w3.heap.size) #[.int .i64 x1, .int .i64 x2] 23 := Blk.later hb (by (repeat' first | (with_reducible assumption) | ((with_reducible refine Blk.new ?_); first | rfl | (simp; done)) | (with_reducible refine Blk.alloc ?_)))
  have kn1 : Blk w5 (w4.heap.size) #[.int .i64 o1, .int .i64 o2] 23 := Blk.later hb (by (repeat' first | (with_reducible assumption) | ((with_reducible refine Blk.new ?_); first | rfl | (simp; done)) | (with_reducible refine Blk.alloc ?_)))
  clear k0 a0 b0 y0
  have k0 := kn0; clear kn0; obtain ⟨a0, b0⟩ := k0.read; have y0 := k0.lt
  have k1 := kn1; clear kn1; obtain ⟨a1, b1⟩ := k1.read; have y1 := k1.lt
  replace hBw : Below w.heap.size w w5 := belowThru (by (repeat' first | (with_reducible exact Below.refl _ _) | (with_reducible assumption) | (with_reducible refine belowThru ?_ (by assumption)) | (with_reducible refine belowAlloc ?_))) hb
  have hzw5 := hBw.size
  clear hb
  go_wp2_with fail
  refine (HT.out _ _ _ (HB.out.later (by (repeat' first | (with_reducible exact Below.refl _ _) | (with_reducible assumption) | (with_reducible refine belowThru ?_ (by assumption)) | (with_reducible refine belowAlloc ?_))))).mono ?_
  rintro e w6 ⟨rfl, hb⟩
  replace hb1 : Below w2.heap.size w2 w6 := belowThru (by (repeat' first | (with_reducible exact Below.refl _ _) | (with_reducible assumption) | (with_reducible refine belowThru ?_ (by assumption)) | (with_reducible refine belowAlloc ?_))) hb
  have kn0 : Blk w6 (w3.heap.size) #[.int .i64 x1, .int .i64 x2] 23 := Blk.later hb (by (repeat' first | (with_reducible assumption) | ((with_reducible refine Blk.new ?_); first | rfl | (simp; done)) | (with_reducible refine Blk.alloc ?_)))
  have kn1 : Blk w6 (w4.heap.size) #[.int .i64 o1, .int .i64 o2] 23 := Blk.later hb (by (repeat' first | (with_reducible assumption) | ((with_reducible refine Blk.new ?_); first | rfl | (simp; done)) | (with_reducible refine Blk.alloc ?_)))
  have kn2 : Blk w6 (w5.heap.size) #[.int .i64 s1, .int .i64 s2, .int .i64 s3, .int .i64 s4] 30 := Blk.later hb (by (repeat' first | (with_reducible assumption) | ((with_reducible refine Blk.new ?_); first | rfl | (simp; done)) | (with_reducible refine Blk.alloc ?_)))
  clear k0 a0 b0 y0
  clear k1 a1 b1 y1
  have k0 := kn0; clear kn0; obtain ⟨a0, b0⟩ := k0.read; have y0 := k0.lt
  have k1 := kn1; clear kn1; obtain ⟨a1, b1⟩ := k1.read; have y1 := k1.lt
  have k2 := kn2; clear kn2; obtain ⟨a2, b2⟩ := k2.read; have y2 := k2.lt
  replace hBw : Below w.heap.size w w6 := belowThru (by (repeat' first | (with_reducible exact Below.refl _ _) | (with_reducible assumption) | (with_reducible refine belowThru ?_ (by assumption)) | (with_reducible refine belowAlloc ?_))) hb
  have hzw6 := hBw.size
  clear hb
  go_wp2_with fail
  refine (HU.out _ (HR.out.later (by (repeat' first | (with_reducible exact Below.refl _ _) | (with_reducible assumption) | (with_reducible refine belowThru ?_ (by assumption)) | (with_reducible refine belowAlloc ?_))))).mono ?_
  rintro e w7 ⟨rfl, hb⟩
  replace hb1 : Below w2.heap.size w2 w7 := belowThru (by (repeat' first | (with_reducible exact Below.refl _ _) | (with_reducible assumption) | (with_reducible refine belowThru ?_ (by assumption)) | (with_reducible refine belowAlloc ?_))) hb
  have kn0 : Blk w7 (w3.heap.size) #[.int .i64 x1, .int .i64 x2] 23 := Blk.later hb (by (repeat' first | (with_reducible assumption) | ((with_reducible refine Blk.new ?_); first | rfl | (simp; done)) | (with_reducible refine Blk.alloc ?_)))
  have kn1 : Blk w7 (w4.heap.size) #[.int .i64 o1, .int .i64 o2] 23 := Blk.later hb (by (repeat' first | (with_reducible assumption) | ((with_reducible refine Blk.new ?_); first | rfl | (simp; done)) | (with_reducible refine Blk.alloc ?_)))
  have kn2 : Blk w7 (w5.heap.size) #[.int .i64 s1, .int .i64 s2, .int .i64 s3, .int .i64 s4] 30 := Blk.later hb (by (repeat' first | (with_reducible assumption) | ((with_reducible refine Blk.new ?_); first | rfl | (simp; done)) | (with_reducible refine Blk.alloc ?_)))
  have kn3 : Blk w7 (w6.heap.size) #[.int .i64 r1, .int .i64 r2, .int .i64 r3, .int .i64 r4] 30 := Blk.later hb (by (repeat' first | (with_reducible assumption) | ((with_reducible refine Blk.new ?_); first | rfl | (simp; done)) | (with_reducible refine Blk.alloc ?_)))
  clear k0 a0 b0 y0
  clear k1 a1 b1 y1
  clear k2 a2 b2 y2
  have k0 := kn0; clear kn0; obtain ⟨a0, b0⟩ := k0.read; have y0 := k0.lt
  have k1 := kn1; clear kn1; obtain ⟨a1, b1⟩ := k1.read; have y1 := k1.lt
  have k2 := kn2; clear kn2; obtain ⟨a2, b2⟩ := k2.read; have y2 := k2.lt
  have k3 := kn3; clear kn3; obtain ⟨a3, b3⟩ := k3.read; have y3 := k3.lt
  replace hBw : Below w.heap.size w w7 := belowThru (by (repeat' first | (with_reducible exact Below.refl _ _) | (with_reducible assumption) | (with_reducible refine belowThru ?_ (by assumption)) | (with_reducible refine belowAlloc ?_))) hb
  have hzw7 := hBw.size
  clear hb
  go_wp2_with fail
  refine (HV.out _ _ _ (HB.out.later (by (repeat' first | (with_reducible exact Below.refl _ _) | (with_reducible assumption) | (with_reducible refine belowThru ?_ (by assumption)) | (with_reducible refine belowAlloc ?_))))).mono ?_
  rintro e w8 ⟨rfl, hb⟩
  replace hb1 : Below w2.heap.size w2 w8 := belowThru (by (repeat' first | (with_reducible exact Below.refl _ _) | (with_reducible assumption) | (with_reducible refine belowThru ?_ (by assumption)) | (with_reducible refine belowAlloc ?_))) hb
  have kn0 : Blk w8 (w3.heap.size) #[.int .i64 x1, .int .i64 x2] 23 := Blk.later hb (by (repeat' first | (with_reducible assumption) | ((with_reducible refine Blk.new ?_); first | rfl | (simp; done)) | (with_reducible refine Blk.alloc ?_)))
  have kn1 : Blk w8 (w4.heap.size) #[.int .i64 o1, .int .i64 o2] 23 := Blk.later hb (by (repeat' first | (with_reducible assumption) | ((with_reducible refine Blk.new ?_); first | rfl | (simp; done)) | (with_reducible refine Blk.alloc ?_)))
  have kn2 : Blk w8 (w5.heap.size) #[.int .i64 s1, .int .i64 s2, .int .i64 s3, .int .i64 s4] 30 := Blk.later hb (by (repeat' first | (with_reducible assumption) | ((with_reducible refine Blk.new ?_); first | rfl | (simp; done)) | (with_reducible refine Blk.alloc ?_)))
  have kn3 : Blk w8 (w6.heap.size) #[.int .i64 r1, .int .i64 r2, .int .i64 r3, .int .i64 r4] 30 := Blk.later hb (by (repeat' first | (with_reducible assumption) | ((with_reducible refine Blk.new ?_); first | rfl | (simp; done)) | (with_reducible refine Blk.alloc ?_)))
  have kn4 : Blk w8 (w7.heap.size) #[.int .i64 u1, .int .i64 u2, .int .i64 u3, .int .i64 u4] 30 := Blk.later hb (by (repeat' first | (with_reducible assumption) | ((with_reducible refine Blk.new ?_); first | rfl | (simp; done)) | (with_reducible refine Blk.alloc ?_)))
  clear k0 a0 b0 y0
  clear k1 a1 b1 y1
  clear k2 a2 b2 y2
  clear k3 a3 b3 y3
  have k0 := kn0; clear kn0; obtain ⟨a0, b0⟩ := k0.read; have y0 := k0.lt
  have k1 := kn1; clear kn1; obtain ⟨a1, b1⟩ := k1.read; have y1 := k1.lt
  have k2 := kn2; clear kn2; obtain ⟨a2, b2⟩ := k2.read; have y2 := k2.lt
  have k3 := kn3; clear kn3; obtain ⟨a3, b3⟩ := k3.read; have y3 := k3.lt
  have k4 := kn4; clear kn4; obtain ⟨a4, b4⟩ := k4.read; have y4 := k4.lt
  replace hBw : Below w.heap.size w w8 := belowThru (by (repeat' first | (with_reducible exact Below.refl _ _) | (with_reducible assumption) | (with_reducible refine belowThru ?_ (by assumption)) | (with_reducible refine belowAlloc ?_))) hb
  have hzw8 := hBw.size
  clear hb
  go_wp2_with fail
  refine (HF.out _).mono ?_
  rintro e w9 ⟨rfl, hb⟩
  replace hb1 : Below w2.heap.size w2 w9 := belowThru (by (repeat' first | (with_reducible exact Below.refl _ _) | (with_reducible assumption) | (with_reducible refine belowThru ?_ (by assumption)) | (with_reducible refine belowAlloc ?_))) hb
  have kn0 : Blk w9 (w3.heap.size) #[.int .i64 x1, .int .i64 x2] 23 := Blk.later hb (by (repeat' first | (with_reducible assumption) | ((with_reducible refine Blk.new ?_); first | rfl | (simp; done)) | (with_reducible refine Blk.alloc ?_)))
  have kn1 : Blk w9 (w4.heap.size) #[.int .i64 o1, .int .i64 o2] 23 := Blk.later hb (by (repeat' first | (with_reducible assumption) | ((with_reducible refine Blk.new ?_); first | rfl | (simp; done)) | (with_reducible refine Blk.alloc ?_)))
  have kn2 : Blk w9 (w5.heap.size) #[.int .i64 s1, .int .i64 s2, .int .i64 s3, .int .i64 s4] 30 := Blk.later hb (by (repeat' first | (with_reducible assumption) | ((with_reducible refine Blk.new ?_); first | rfl | (simp; done)) | (with_reducible refine Blk.alloc ?_)))
  have kn3 : Blk w9 (w6.heap.size) #[.int .i64 r1, .int .i64 r2, .int .i64 r3, .int .i64 r4] 30 := Blk.later hb (by (repeat' first | (with_reducible assumption) | ((with_reducible refine Blk.new ?_); first | rfl | (simp; done)) | (with_reducible refine Blk.alloc ?_)))
  have kn4 : Blk w9 (w7.heap.size) #[.int .i64 u1, .int .i64 u2, .int .i64 u3, .int .i64 u4] 30 := Blk.later hb (by (repeat' first | (with_reducible assumption) | ((with_reducible refine Blk.new ?_); first | rfl | (simp; done)) | (with_reducible refine Blk.alloc ?_)))
  have kn5 : Blk w9 (w8.heap.size) #[.int .i64 u1, .int .i64 u2, .int .i64 u3, .int .i64 u4] 30 := Blk.later hb (by (repeat' first | (with_reducible assumption) | ((with_reducible refine Blk.new ?_); first | rfl | (simp; done)) | (with_reducible refine Blk.alloc ?_)))
  clear k0 a0 b0 y0
  clear k1 a1 b1 y1
  clear k2 a2 b2 y2
  clear k3 a3 b3 y3
  clear k4 a4 b4 y4
  have k0 := kn0; clear kn0; obtain ⟨a0, b0⟩ := k0.read; have y0 := k0.lt
  have k1 := kn1; clear kn1; obtain ⟨a1, b1⟩ := k1.read; have y1 := k1.lt
  have k2 := kn2; clear kn2; obtain ⟨a2, b2⟩ := k2.read; have y2 := k2.lt
  have k3 := kn3; clear kn3; obtain ⟨a3, b3⟩ := k3.read; have y3 := k3.lt
  have k4 := kn4; clear kn4; obtain ⟨a4, b4⟩ := k4.read; have y4 := k4.lt
  have k5 := kn5; clear kn5; obtain ⟨a5, b5⟩ := k5.read; have y5 := k5.lt
  replace hBw : Below w.heap.size w w9 := belowThru (by (repeat' first | (with_reducible exact Below.refl _ _) | (with_reducible assumption) | (with_reducible refine belowThru ?_ (by assumption)) | (with_reducible refine belowAlloc ?_))) hb
  have hzw9 := hBw.size
  clear hb
  go_wp2_with fail
  refine (HZ.out _).mono ?_
  rintro e w10 ⟨rfl, hb⟩
  replace hb1 : Below w2.heap.size w2 w10 := belowThru (by (repeat' first | (with_reducible exact Below.refl _ _) | (with_reducible assumption) | (with_reducible refine belowThru ?_ (by assumption)) | (with_reducible refine belowAlloc ?_))) hb
  have kn0 : Blk w10 (w3.heap.size) #[.int .i64 x1, .int .i64 x2] 23 := Blk.later hb (by (repeat' first | (with_reducible assumption) | ((with_reducible refine Blk.new ?_); first | rfl | (simp; done)) | (with_reducible refine Blk.alloc ?_)))
  have kn1 : Blk w10 (w4.heap.size) #[.int .i64 o1, .int .i64 o2] 23 := Blk.later hb (by (repeat' first | (with_reducible assumption) | ((with_reducible refine Blk.new ?_); first | rfl | (simp; done)) | (with_reducible refine Blk.alloc ?_)))
  have kn2 : Blk w10 (w5.heap.size) #[.int .i64 s1, .int .i64 s2, .int .i64 s3, .int .i64 s4] 30 := Blk.later hb (by (repeat' first | (with_reducible assumption) | ((with_reducible refine Blk.new ?_); first | rfl | (simp; done)) | (with_reducible refine Blk.alloc ?_)))
  have kn3 : Blk w10 (w6.heap.size) #[.int .i64 r1, .int .i64 r2, .int .i64 r3, .int .i64 r4] 30 := Blk.later hb (by (repeat' first | (with_reducible assumption) | ((with_reducible refine Blk.new ?_); first | rfl | (simp; done)) | (with_reducible refine Blk.alloc ?_)))
  have kn4 : Blk w10 (w7.heap.size) #[.int .i64 u1, .int .i64 u2, .int .i64 u3, .int .i64 u4] 30 := Blk.later hb (by (repeat' first | (with_reducible assumption) | ((with_reducible refine Blk.new ?_); first | rfl | (simp; done)) | (with_reducible refine Blk.alloc ?_)))
  have kn5 : Blk w10 (w8.heap.size) #[.int .i64 u1, .int .i64 u2, .int .i64 u3, .int .i64 u4] 30 := Blk.later hb (by (repeat' first | (with_reducible assumption) | ((with_reducible refine Blk.new ?_); first | rfl | (simp; done)) | (with_reducible refine Blk.alloc ?_)))
  have kn6 : Blk w10 (w9.heap.size) #[.int .i64 e1, .int .i64 e2] 23 := Blk.later hb (by (repeat' first | (with_reducible assumption) | ((with_reducible refine Blk.new ?_); first | rfl | (simp; done)) | (with_reducible refine Blk.alloc ?_)))
  clear k0 a0 b0 y0
  clear k1 a1 b1 y1
  clear k2 a2 b2 y2
  clear k3 a3 b3 y3
  clear k4 a4 b4 y4
  clear k5 a5 b5 y5
  have k0 := kn0; clear kn0; obtain ⟨a0, b0⟩ := k0.read; have y0 := k0.lt
  have k1 := kn1; clear kn1; obtain ⟨a1, b1⟩ := k1.read; have y1 := k1.lt
  have k2 := kn2; clear kn2; obtain ⟨a2, b2⟩ := k2.read; have y2 := k2.lt
  have k3 := kn3; clear kn3; obtain ⟨a3, b3⟩ := k3.read; have y3 := k3.lt
  have k4 := kn4; clear kn4; obtain ⟨a4, b4⟩ := k4.read; have y4 := k4.lt
  have k5 := kn5; clear kn5; obtain ⟨a5, b5⟩ := k5.read; have y5 := k5.lt
  have k6 := kn6; clear kn6; obtain ⟨a6, b6⟩ := k6.read; have y6 := k6.lt
  replace hBw : Below w.heap.size w w10 := belowThru (by (repeat' first | (with_reducible exact Below.refl _ _) | (with_reducible assumption) | (with_reducible refine belowThru ?_ (by assumption)) | (with_reducible refine belowAlloc ?_))) hb
  have hzw10 := hBw.size
  clear hb
  go_wp2_with fail
  refine (HL.out _).mono ?_
  rintro e w11 ⟨rfl, hb⟩
  replace hb1 : Below w2.heap.size w2 w11 := belowThru (by (repeat' first | (with_reducible exact Below.refl _ _) | (with_reducible assumption) | (with_reducible refine belowThru ?_ (by assumption)) | (with_reducible refine belowAlloc ?_))) hb
  have kn0 : Blk w11 (w3.heap.size) #[.int .i64 x1, .int .i64 x2] 23 := Blk.later hb (by (repeat' first | (with_reducible assumption) | ((with_reducible refine Blk.new ?_); first | rfl | (simp; done)) | (with_reducible refine Blk.alloc ?_)))
  have kn1 : Blk w11 (w4.heap.size) #[.int .i64 o1, .int .i64 o2] 23 := Blk.later hb (by (repeat' first | (with_reducible assumption) | ((with_reducible refine Blk.new ?_); first | rfl | (simp; done)) | (with_reducible refine Blk.alloc ?_)))
  have kn2 : Blk w11 (w5.heap.size) #[.int .i64 s1, .int .i64 s2, .int .i64 s3, .int .i64 s4] 30 := Blk.later hb (by (repeat' first | (with_reducible assumption) | ((with_reducible refine Blk.new ?_); first | rfl | (simp; done)) | (with_reducible refine Blk.alloc ?_)))
  have kn3 : Blk w11 (w6.heap.size) #[.int .i64 r1, .int .i64 r2, .int .i64 r3, .int .i64 r4] 30 := Blk.later hb (by (repeat' first | (with_reducible assumption) | ((with_reducible refine Blk.new ?_); first | rfl | (simp; done)) | (with_reducible refine Blk.alloc ?_)))
  have kn4 : Blk w11 (w7.heap.size) #[.int .i64 u1, .int .i64 u2, .int .i64 u3, .int .i64 u4] 30 := Blk.later hb (by (repeat' first | (with_reducible assumption) | ((with_reducible refine Blk.new ?_); first | rfl | (simp; done)) | (with_reducible refine Blk.alloc ?_)))
  have kn5 : Blk w11 (w8.heap.size) #[.int .i64 u1, .int .i64 u2, .int .i64 u3, .int .i64 u4] 30 := Blk.later hb (by (repeat' first | (with_reducible assumption) | ((with_reducible refine Blk.new ?_); first | rfl | (simp; done)) | (with_reducible refine Blk.alloc ?_)))
  have kn6 : Blk w11 (w9.heap.size) #[.int .i64 e1, .int .i64 e2] 23 := Blk.later hb (by (repeat' first | (with_reducible assumption) | ((with_reducible refine Blk.new ?_); first | rfl | (simp; done)) | (with_reducible refine Blk.alloc ?_)))
  have kn7 : Blk w11 (w10.heap.size) #[.int .i64 o1, .int .i64 o2] 23 := Blk.later hb (by (repeat' first | (with_reducible assumption) | ((with_reducible refine Blk.new ?_); first | rfl | (simp; done)) | (with_reducible refine Blk.alloc ?_)))
  clear k0 a0 b0 y0
  clear k1 a1 b1 y1
  clear k2 a2 b2 y2
  clear k3 a3 b3 y3
  clear k4 a4 b4 y4
  clear k5 a5 b5 y5
  clear k6 a6 b6 y6
  have k0 := kn0; clear kn0; obtain ⟨a0, b0⟩ := k0.read; have y0 := k0.lt
  have k1 := kn1; clear kn1; obtain ⟨a1, b1⟩ := k1.read; have y1 := k1.lt
  have k2 := kn2; clear kn2; obtain ⟨a2, b2⟩ := k2.read; have y2 := k2.lt
  have k3 := kn3; clear kn3; obtain ⟨a3, b3⟩ := k3.read; have y3 := k3.lt
  have k4 := kn4; clear kn4; obtain ⟨a4, b4⟩ := k4.read; have y4 := k4.lt
  have k5 := kn5; clear kn5; obtain ⟨a5, b5⟩ := k5.read; have y5 := k5.lt
  have k6 := kn6; clear kn6; obtain ⟨a6, b6⟩ := k6.read; have y6 := k6.lt
  have k7 := kn7; clear kn7; obtain ⟨a7, b7⟩ := k7.read; have y7 := k7.lt
  replace hBw : Below w.heap.size w w11 := belowThru (by (repeat' first | (with_reducible exact Below.refl _ _) | (with_reducible assumption) | (with_reducible refine belowThru ?_ (by assumption)) | (with_reducible refine belowAlloc ?_))) hb
  have hzw11 := hBw.size
  clear hb
  go_wp2_with fail
  refine (HH.out _).mono ?_
  rintro e w12 ⟨rfl, hb⟩
  replace hb1 : Below w2.heap.size w2 w12 := belowThru (by (repeat' first | (with_reducible exact Below.refl _ _) | (with_reducible assumption) | (with_reducible refine belowThru ?_ (by assumption)) | (with_reducible refine belowAlloc ?_))) hb
  have kn0 : Blk w12 (w3.heap.size) #[.int .i64 x1, .int .i64 x2] 23 := Blk.later hb (by (repeat' first | (with_reducible assumption) | ((with_reducible refine Blk.new ?_); first | rfl | (simp; done)) | (with_reducible refine Blk.alloc ?_)))
  have kn1 : Blk w12 (w4.heap.size) #[.int .i64 o1, .int .i64 o2] 23 := Blk.later hb (by (repeat' first | (with_reducible assumption) | ((with_reducible refine Blk.new ?_); first | rfl | (simp; done)) | (with_reducible refine Blk.alloc ?_)))
  have kn2 : Blk w12 (w5.heap.size) #[.int .i64 s1, .int .i64 s2, .int .i64 s3, .int .i64 s4] 30 := Blk.later hb (by (repeat' first | (with_reducible assumption) | ((with_reducible refine Blk.new ?_); first | rfl | (simp; done)) | (with_reducible refine Blk.alloc ?_)))
  have kn3 : Blk w12 (w6.heap.size) #[.int .i64 r1, .int .i64 r2, .int .i64 r3, .int .i64 r4] 30 := Blk.later hb (by (repeat' first | (with_reducible assumption) | ((with_reducible refine Blk.new ?_); first | rfl | (simp; done)) | (with_reducible refine Blk.alloc ?_)))
  have kn4 : Blk w12 (w7.heap.size) #[.int .i64 u1, .int .i64 u2, .int .i64 u3, .int .i64 u4] 30 := Blk.later hb (by (repeat' first | (with_reducible assumption) | ((with_reducible refine Blk.new ?_); first | rfl | (simp; done)) | (with_reducible refine Blk.alloc ?_)))
  have kn5 : Blk w12 (w8.heap.size) #[.int .i64 u1, .int .i64 u2, .int .i64 u3, .int .i64 u4] 30 := Blk.later hb (by (repeat' first | (with_reducible assumption) | ((with_reducible refine Blk.new ?_); first | rfl | (simp; done)) | (with_reducible refine Blk.alloc ?_)))
  have kn6 : Blk w12 (w9.heap.size) #[.int .i64 e1, .int .i64 e2] 23 := Blk.later hb (by (repeat' first | (with_reducible assumption) | ((with_reducible refine Blk.new ?_); first | rfl | (simp; done)) | (with_reducible refine Blk.alloc ?_)))
  have kn7 : Blk w12 (w10.heap.size) #[.int .i64 o1, .int .i64 o2] 23 := Blk.later hb (by (repeat' first | (with_reducible assumption) | ((with_reducible refine Blk.new ?_); first | rfl | (simp; done)) | (with_reducible refine Blk.alloc ?_)))
  have kn8 : Blk w12 (w11.heap.size) #[.int .i64 lo1, .int .i64 lo2] 23 := Blk.later hb (by (repeat' first | (with_reducible assumption) | ((with_reducible refine Blk.new ?_); first | rfl | (simp; done)) | (with_reducible refine Blk.alloc ?_)))
  clear k0 a0 b0 y0
  clear k1 a1 b1 y1
  clear k2 a2 b2 y2
  clear k3 a3 b3 y3
  clear k4 a4 b4 y4
  clear k5 a5 b5 y5
  clear k6 a6 b6 y6
  clear k7 a7 b7 y7
  have k0 := kn0; clear kn0; obtain ⟨a0, b0⟩ := k0.read; have y0 := k0.lt
  have k1 := kn1; clear kn1; obtain ⟨a1, b1⟩ := k1.read; have y1 := k1.lt
  have k2 := kn2; clear kn2; obtain ⟨a2, b2⟩ := k2.read; have y2 := k2.lt
  have k3 := kn3; clear kn3; obtain ⟨a3, b3⟩ := k3.read; have y3 := k3.lt
  have k4 := kn4; clear kn4; obtain ⟨a4, b4⟩ := k4.read; have y4 := k4.lt
  have k5 := kn5; clear kn5; obtain ⟨a5, b5⟩ := k5.read; have y5 := k5.lt
  have k6 := kn6; clear kn6; obtain ⟨a6, b6⟩ := k6.read; have y6 := k6.lt
  have k7 := kn7; clear kn7; obtain ⟨a7, b7⟩ := k7.read; have y7 := k7.lt
  have k8 := kn8; clear kn8; obtain ⟨a8, b8⟩ := k8.read; have y8 := k8.lt
  replace hBw : Below w.heap.size w w12 := belowThru (by (repeat' first | (with_reducible exact Below.refl _ _) | (with_reducible assumption) | (with_reducible refine belowThru ?_ (by assumption)) | (with_reducible refine belowAlloc ?_))) hb
  have hzw12 := hBw.size
  clear hb
  go_wp2_with fail
  go_ret
  exact ⟨rfl, by (repeat' first | (with_reducible exact Below.refl _ _) | (with_reducible assumption) | (with_reducible refine belowThru ?_ (by assumption)) | (with_reducible refine belowAlloc ?_))⟩
set_option maxRecDepth 100000 in
set_option maxHeartbeats 16000000 in
theorem mirror_10 (a : Option Addr) (n c : Nat) (zs : List Int) (t p nz : Int) (w : World) (hR : Row w a n (iv zs)) (hl : n ≤ 64) (L : List Int) (M q x1 x2 o1 o2 z1 z2 s1 s2 s3 s4 r1 r2 r3 r4 u1 u2 u3 u4 e1 e2 lo1 lo2 hi1 hi2 E G J K Q V : Int) (hM : IntKind.i64.wrap ((n : Int) - 1) = M) (hq : IntKind.i64.wrap (M - p) = q) (hE : (E == 0) = false)
    (HX : Hid (∀ w : World, Row w a n (iv zs) → Calls Try.prog 17 #[.slice a n c, .int .i64 t, .int .i64 p] w fun e w' => e = .returned (.tuple #[.agg #[.int .i64 x1, .int .i64 x2], .int .i64 E]) ∧ Below w.heap.size w w')) (HY : Hid (∀ (v : Option Addr) (c : Nat) (w : World), Row w v n (iv L) → Calls Try.prog 19 #[.slice v n c, .int .i64 t, .int .i64 q] w fun e w' => e = .returned (.tuple #[.agg #[.int .i64 o1, .int .i64 o2], .int .i64 E]) ∧ Below w.heap.size w w')) (HS : Hid (∀ w : World, Row w a n (iv zs) → Calls Try.prog 21 #[.slice a n c, .int .i64 t, .int .i64 p, .int .i64 nz] w fun e w' => e = .returned (.tuple #[.agg #[.int .i64 s1, .int .i64 s2, .int .i64 s3, .int .i64 s4], .int .i64 0]) ∧ Below w.heap.size w w')) (HT : Hid (∀ (v : Option Addr) (c : Nat) (w : World), Row w v n (iv L) → Calls Try.prog 20 #[.slice v n c, .int .i64 t, .int .i64 q, .int .i64 nz] w fun e w' => e = .returned (.tuple #[.agg #[.int .i64 r1, .int .i64 r2, .int .i64 r3, .int .i64 r4], .int .i64 0]) ∧ Below w.heap.size w w')) (HU : Hid (∀ w : World, Row w a n (iv zs) → Calls Try.prog 39 #[.slice a n c, .int .i64 t, .int .i64 nz] w fun e w' => e = .returned (.tuple #[.agg #[.int .i64 u1, .int .i64 u2, .int .i64 u3, .int .i64 u4], .int .i64 J]) ∧ Below w.heap.size w w')) (HV : Hid (∀ (v : Option Addr) (c : Nat) (w : World), Row w v n (iv L) → Calls Try.prog 39 #[.slice v n c, .int .i64 t, .int .i64 nz] w fun e w' => e = .returned (.tuple #[.agg #[.int .i64 u1, .int .i64 u2, .int .i64 u3, .int .i64 u4], .int .i64 J]) ∧ Below w.heap.size w w')) (HF : Hid (∀ w, Calls Try.prog 23 #[.int .i64 M, .int .i64 1] w fun e w' => e = .returned (.agg #[.int .i64 e1, .int .i64 e2]) ∧ Below w.heap.size w w')) (HZ : Hid (∀ w, Calls Try.prog 50 #[.agg #[.int .i64 e1, .int .i64 e2], .agg #[.int .i64 x1, .int .i64 x2]] w fun e w' => e = .returned (.tuple #[.agg #[.int .i64 z1, .int .i64 z2], .int .i64 K]) ∧ Below w.heap.size w w')) (HL : Hid (∀ w, Calls Try.prog 50 #[.agg #[.int .i64 e1, .int .i64 e2], .agg #[.int .i64 s3, .int .i64 s4]] w fun e w' => e = .returned (.tuple #[.agg #[.int .i64 r1, .int .i64 r2], .int .i64 0]) ∧ Below w.heap.size w w')) (HH : Hid (∀ w, Calls Try.prog 50 #[.agg #[.int .i64 e1, .int .i64 e2], .agg #[.int .i64 s1, .int .i64 s2]] w fun e w' => e = .returned (.tuple #[.agg #[.int .i64 r3, .int .i64 r4], .int .i64 0]) ∧ Below w.heap.size w w')) (HV0 : Hid (∀ w, Row w a n (iv zs) → Calls Try.prog 49 #[.slice a n c] w fun e w' => ∃ v c', e = .returned (.slice v n c') ∧ Row w' v n (iv L) ∧ Below w.heap.size w w')) :
    Calls Try.prog 9 #[.slice a n c, .int .i64 t, .int .i64 p, .int .i64 nz] w fun e w' => e = .returned (.bool true) ∧ Below w.heap.size w w' := by
  have hd : decide (64 < (n : Int)) = false := by simp; omega
  have HR := Lib.hid hR
  clear hR
  go_enter Try.func9, Try.ntmps9
  go_wp2_with fail
  refine (alive_true _).mono ?_
  rintro e w1 ⟨rfl, hb⟩
  have hBw : Below w.heap.size w w1 := by (repeat' first | (with_reducible exact Below.refl _ _) | (with_reducible assumption) | (with_reducible refine belowThru ?_ (by assumption)) | (with_reducible refine belowAlloc ?_))
  have hzw1 := hBw.size
  clear hb
  go_wp2_with fail
  refine (HV0.out _ (HR.out.later (by (repeat' first | (with_reducible exact Below.refl _ _) | (with_reducible assumption) | (with_reducible refine belowThru ?_ (by assumption)) | (with_reducible refine belowAlloc ?_))))).mono ?_
  rintro e w2 ⟨v, c', rfl, hRow, hb⟩
  have HB := Lib.hid hRow
  clear hRow
  replace hBw : Below w.heap.size w w2 := belowThru (by (repeat' first | (with_reducible exact Below.refl _ _) | (with_reducible assumption) | (with_reducible refine belowThru ?_ (by assumption)) | (with_reducible refine belowAlloc ?_))) hb
  have hzw2 := hBw.size
  clear hb
  have hb1 : Below w2.heap.size w2 w2 := Below.refl _ _
  go_wp2_with fail
  refine (HX.out _ (HR.out.later (by (repeat' first | (with_reducible exact Below.refl _ _) | (with_reducible assumption) | (with_reducible refine belowThru ?_ (by assumption)) | (with_reducible refine belowAlloc ?_))))).mono ?_
  rintro e w3 ⟨rfl, hb⟩
  replace hb1 : Below w2.heap.size w2 w3 := belowThru (by (repeat' first | (with_reducible exact Below.refl _ _) | (with_reducible assumption) | (with_reducible refine belowThru ?_ (by assumption)) | (with_reducible refine belowAlloc ?_))) hb
  replace hBw : Below w.heap.size w w3 := belowThru (by (repeat' first | (with_reducible exact Below.refl _ _) | (with_reducible assumption) | (with_reducible refine belowThru ?_ (by assumption)) | (with_reducible refine belowAlloc ?_))) hb
  have hzw3 := hBw.size
  clear hb
  go_wp2_with fail
  refine (HY.out _ _ _ (HB.out.later (by (repeat' first | (with_reducible exact Below.refl _ _) | (with_reducible assumption) | (with_reducible refine belowThru ?_ (by assumption)) | (with_reducible refine belowAlloc ?_))))).mono ?_
  rintro e w4 ⟨rfl, hb⟩
  replace hb1 : Below w2.heap.size w2 w4 := belowThru (by (repeat' first | (with_reducible exact Below.refl _ _) | (with_reducible assumption) | (with_reducible refine belowThru ?_ (by assumption)) | (with_reducible refine belowAlloc ?_))) hb
  have kn0 : Blk w4 (w3.heap.size) #[.int .i64 x1, .int .i64 x2] 23 := Blk.later hb (by (repeat' first | (with_reducible assumption) | ((with_reducible refine Blk.new ?_); first | rfl | (simp; done)) | (with_reducible refine Blk.alloc ?_)))
  have k0 := kn0; clear kn0; obtain ⟨a0, b0⟩ := k0.read; have y0 := k0.lt
  replace hBw : Below w.heap.size w w4 := belowThru (by (repeat' first | (with_reducible exact Below.refl _ _) | (with_reducible assumption) | (with_reducible refine belowThru ?_ (by assumption)) | (with_reducible refine belowAlloc ?_))) hb
  have hzw4 := hBw.size
  clear hb
  go_wp2_with fail
  refine (HS.out _ (HR.out.later (by (repeat' first | (with_reducible exact Below.refl _ _) | (with_reducible assumption) | (with_reducible refine belowThru ?_ (by assumption)) | (with_reducible refine belowAlloc ?_))))).mono ?_
  rintro e w5 ⟨rfl, hb⟩
  replace hb1 : Below w2.heap.size w2 w5 := belowThru (by (repeat' first | (with_reducible exact Below.refl _ _) | (with_reducible assumption) | (with_reducible refine belowThru ?_ (by assumption)) | (with_reducible refine belowAlloc ?_))) hb
  have kn0 : Blk w5 (w3.heap.size) #[.int .i64 x1, .int .i64 x2] 23 := Blk.later hb (by (repeat' first | (with_reducible assumption) | ((with_reducible refine Blk.new ?_); first | rfl | (simp; done)) | (with_reducible refine Blk.alloc ?_)))
  have kn1 : Blk w5 (w4.heap.size) #[.int .i64 o1, .int .i64 o2] 23 := Blk.later hb (by (repeat' first | (with_reducible assumption) | ((with_reducible refine Blk.new ?_); first | rfl | (simp; done)) | (with_reducible refine Blk.alloc ?_)))
  clear k0 a0 b0 y0
  have k0 := kn0; clear kn0; obtain ⟨a0, b0⟩ := k0.read; have y0 := k0.lt
  have k1 := kn1; clear kn1; obtain ⟨a1, b1⟩ := k1.read; have y1 := k1.lt
  replace hBw : Below w.heap.size w w5 := belowThru (by (repeat' first | (with_reducible exact Below.refl _ _) | (with_reducible assumption) | (with_reducible refine belowThru ?_ (by assumption)) | (with_reducible refine belowAlloc ?_))) hb
  have hzw5 := hBw.size
  clear hb
  go_wp2_with fail
  refine (HT.out _ _ _ (HB.out.later (by (repeat' first | (with_reducible exact Below.refl _ _) | (with_reducible assumption) | (with_reducible refine belowThru ?_ (by assumption)) | (with_reducible refine belowAlloc ?_))))).mono ?_
  rintro e w6 ⟨rfl, hb⟩
  replace hb1 : Below w2.heap.size w2 w6 := belowThru (by (repeat' first | (with_reducible exact Below.refl _ _) | (with_reducible assumption) | (with_reducible refine belowThru ?_ (by assumption)) | (with_reducible refine belowAlloc ?_))) hb
  have kn0 : Blk w6 (w3.heap.size) #[.int .i64 x1, .int .i64 x2] 23 := Blk.later hb (by (repeat' first | (with_reducible assumption) | ((with_reducible refine Blk.new ?_); first | rfl | (simp; done)) | (with_reducible refine Blk.alloc ?_)))
  have kn1 : Blk w6 (w4.heap.size) #[.int .i64 o1, .int .i64 o2] 23 := Blk.later hb (by (repeat' first | (with_reducible assumption) | ((with_reducible refine Blk.new ?_); first | rfl | (simp; done)) | (with_reducible refine Blk.alloc ?_)))
  have kn2 : Blk w6 (w5.heap.size) #[.int .i64 s1, .int .i64 s2, .int .i64 s3, .int .i64 s4] 30 := Blk.later hb (by (repeat' first | (with_reducible assumption) | ((with_reducible refine Blk.new ?_); first | rfl | (simp; done)) | (with_reducible refine Blk.alloc ?_)))
  clear k0 a0 b0 y0
  clear k1 a1 b1 y1
  have k0 := kn0; clear kn0; obtain ⟨a0, b0⟩ := k0.read; have y0 := k0.lt
  have k1 := kn1; clear kn1; obtain ⟨a1, b1⟩ := k1.read; have y1 := k1.lt
  have k2 := kn2; clear kn2; obtain ⟨a2, b2⟩ := k2.read; have y2 := k2.lt
  replace hBw : Below w.heap.size w w6 := belowThru (by (repeat' first | (with_reducible exact Below.refl _ _) | (with_reducible assumption) | (with_reducible refine belowThru ?_ (by assumption)) | (with_reducible refine belowAlloc ?_))) hb
  have hzw6 := hBw.size
  clear hb
  go_wp2_with fail
  refine (HU.out _ (HR.out.later (by (repeat' first | (with_reducible exact Below.refl _ _) | (with_reducible assumption) | (with_reducible refine belowThru ?_ (by assumption)) | (with_reducible refine belowAlloc ?_))))).mono ?_
  rintro e w7 ⟨rfl, hb⟩
  replace hb1 : Below w2.heap.size w2 w7 := belowThru (by (repeat' first | (with_reducible exact Below.refl _ _) | (with_reducible assumption) | (with_reducible refine belowThru ?_ (by assumption)) | (with_reducible refine belowAlloc ?_))) hb
  have kn0 : Blk w7 (w3.heap.size) #[.int .i64 x1, .int .i64 x2] 23 := Blk.later hb (by (repeat' first | (with_reducible assumption) | ((with_reducible refine Blk.new ?_); first | rfl | (simp; done)) | (with_reducible refine Blk.alloc ?_)))
  have kn1 : Blk w7 (w4.heap.size) #[.int .i64 o1, .int .i64 o2] 23 := Blk.later hb (by (repeat' first | (with_reducible assumption) | ((with_reducible refine Blk.new ?_); first | rfl | (simp; done)) | (with_reducible refine Blk.alloc ?_)))
  have kn2 : Blk w7 (w5.heap.size) #[.int .i64 s1, .int .i64 s2, .int .i64 s3, .int .i64 s4] 30 := Blk.later hb (by (repeat' first | (with_reducible assumption) | ((with_reducible refine Blk.new ?_); first | rfl | (simp; done)) | (with_reducible refine Blk.alloc ?_)))
  have kn3 : Blk w7 (w6.heap.size) #[.int .i64 r1, .int .i64 r2, .int .i64 r3, .int .i64 r4] 30 := Blk.later hb (by (repeat' first | (with_reducible assumption) | ((with_reducible refine Blk.new ?_); first | rfl | (simp; done)) | (with_reducible refine Blk.alloc ?_)))
  clear k0 a0 b0 y0
  clear k1 a1 b1 y1
  clear k2 a2 b2 y2
  have k0 := kn0; clear kn0; obtain ⟨a0, b0⟩ := k0.read; have y0 := k0.lt
  have k1 := kn1; clear kn1; obtain ⟨a1, b1⟩ := k1.read; have y1 := k1.lt
  have k2 := kn2; clear kn2; obtain ⟨a2, b2⟩ := k2.read; have y2 := k2.lt
  have k3 := kn3; clear kn3; obtain ⟨a3, b3⟩ := k3.read; have y3 := k3.lt
  replace hBw : Below w.heap.size w w7 := belowThru (by (repeat' first | (with_reducible exact Below.refl _ _) | (with_reducible assumption) | (with_reducible refine belowThru ?_ (by assumption)) | (with_reducible refine belowAlloc ?_))) hb
  have hzw7 := hBw.size
  clear hb
  go_wp2_with fail
  refine (HV.out _ _ _ (HB.out.later (by (repeat' first | (with_reducible exact Below.refl _ _) | (with_reducible assumption) | (with_reducible refine belowThru ?_ (by assumption)) | (with_reducible refine belowAlloc ?_))))).mono ?_
  rintro e w8 ⟨rfl, hb⟩
  replace hb1 : Below w2.heap.size w2 w8 := belowThru (by (repeat' first | (with_reducible exact Below.refl _ _) | (with_reducible assumption) | (with_reducible refine belowThru ?_ (by assumption)) | (with_reducible refine belowAlloc ?_))) hb
  have kn0 : Blk w8 (w3.heap.size) #[.int .i64 x1, .int .i64 x2] 23 := Blk.later hb (by (repeat' first | (with_reducible assumption) | ((with_reducible refine Blk.new ?_); first | rfl | (simp; done)) | (with_reducible refine Blk.alloc ?_)))
  have kn1 : Blk w8 (w4.heap.size) #[.int .i64 o1, .int .i64 o2] 23 := Blk.later hb (by (repeat' first | (with_reducible assumption) | ((with_reducible refine Blk.new ?_); first | rfl | (simp; done)) | (with_reducible refine Blk.alloc ?_)))
  have kn2 : Blk w8 (w5.heap.size) #[.int .i64 s1, .int .i64 s2, .int .i64 s3, .int .i64 s4] 30 := Blk.later hb (by (repeat' first | (with_reducible assumption) | ((with_reducible refine Blk.new ?_); first | rfl | (simp; done)) | (with_reducible refine Blk.alloc ?_)))
  have kn3 : Blk w8 (w6.heap.size) #[.int .i64 r1, .int .i64 r2, .int .i64 r3, .int .i64 r4] 30 := Blk.later hb (by (repeat' first | (with_reducible assumption) | ((with_reducible refine Blk.new ?_); first | rfl | (simp; done)) | (with_reducible refine Blk.alloc ?_)))
  have kn4 : Blk w8 (w7.heap.size) #[.int .i64 u1, .int .i64 u2, .int .i64 u3, .int .i64 u4] 30 := Blk.later hb (by (repeat' first | (with_reducible assumption) | ((with_reducible refine Blk.new ?_); first | rfl | (simp; done)) | (with_reducible refine Blk.alloc ?_)))
  clear k0 a0 b0 y0
  clear k1 a1 b1 y1
  clear k2 a2 b2 y2
  clear k3 a3 b3 y3
  have k0 := kn0; clear kn0; obtain ⟨a0, b0⟩ := k0.read; have y0 := k0.lt
  have k1 := kn1; clear kn1; obtain ⟨a1, b1⟩ := k1.read; have y1 := k1.lt
  have k2 := kn2; clear kn2; obtain ⟨a2, b2⟩ := k2.read; have y2 := k2.lt
  have k3 := kn3; clear kn3; obtain ⟨a3, b3⟩ := k3.read; have y3 := k3.lt
  have k4 := kn4; clear kn4; obtain ⟨a4, b4⟩ := k4.read; have y4 := k4.lt
  replace hBw : Below w.heap.size w w8 := belowThru (by (repeat' first | (with_reducible exact Below.refl _ _) | (with_reducible assumption) | (with_reducible refine belowThru ?_ (by assumption)) | (with_reducible refine belowAlloc ?_))) hb
  have hzw8 := hBw.size
  clear hb
  go_wp2_with fail
  refine (HF.out _).mono ?_
  rintro e w9 ⟨rfl, hb⟩
  replace hb1 : Below w2.heap.size w2 w9 := belowThru (by (repeat' first | (with_reducible exact Below.refl _ _) | (with_reducible assumption) | (with_reducible refine belowThru ?_ (by assumption)) | (with_reducible refine belowAlloc ?_))) hb
  have kn0 : Blk w9 (w3.heap.size) #[.int .i64 x1, .int .i64 x2] 23 := Blk.later hb (by (repeat' first | (with_reducible assumption) | ((with_reducible refine Blk.new ?_); first | rfl | (simp; done)) | (with_reducible refine Blk.alloc ?_)))
  have kn1 : Blk w9 (w4.heap.size) #[.int .i64 o1, .int .i64 o2] 23 := Blk.later hb (by (repeat' first | (with_reducible assumption) | ((with_reducible refine Blk.new ?_); first | rfl | (simp; done)) | (with_reducible refine Blk.alloc ?_)))
  have kn2 : Blk w9 (w5.heap.size) #[.int .i64 s1, .int .i64 s2, .int .i64 s3, .int .i64 s4] 30 := Blk.later hb (by (repeat' first | (with_reducible assumption) | ((with_reducible refine Blk.new ?_); first | rfl | (simp; done)) | (with_reducible refine Blk.alloc ?_)))
  have kn3 : Blk w9 (w6.heap.size) #[.int .i64 r1, .int .i64 r2, .int .i64 r3, .int .i64 r4] 30 := Blk.later hb (by (repeat' first | (with_reducible assumption) | ((with_reducible refine Blk.new ?_); first | rfl | (simp; done)) | (with_reducible refine Blk.alloc ?_)))
  have kn4 : Blk w9 (w7.heap.size) #[.int .i64 u1, .int .i64 u2, .int .i64 u3, .int .i64 u4] 30 := Blk.later hb (by (repeat' first | (with_reducible assumption) | ((with_reducible refine Blk.new ?_); first | rfl | (simp; done)) | (with_reducible refine Blk.alloc ?_)))
  have kn5 : Blk w9 (w8.heap.size) #[.int .i64 u1, .int .i64 u2, .int .i64 u3, .int .i64 u4] 30 := Blk.later hb (by (repeat' first | (with_reducible assumption) | ((with_reducible refine Blk.new ?_); first | rfl | (simp; done)) | (with_reducible refine Blk.alloc ?_)))
  clear k0 a0 b0 y0
  clear k1 a1 b1 y1
  clear k2 a2 b2 y2
  clear k3 a3 b3 y3
  clear k4 a4 b4 y4
  have k0 := kn0; clear kn0; obtain ⟨a0, b0⟩ := k0.read; have y0 := k0.lt
  have k1 := kn1; clear kn1; obtain ⟨a1, b1⟩ := k1.read; have y1 := k1.lt
  have k2 := kn2; clear kn2; obtain ⟨a2, b2⟩ := k2.read; have y2 := k2.lt
  have k3 := kn3; clear kn3; obtain ⟨a3, b3⟩ := k3.read; have y3 := k3.lt
  have k4 := kn4; clear kn4; obtain ⟨a4, b4⟩ := k4.read; have y4 := k4.lt
  have k5 := kn5; clear kn5; obtain ⟨a5, b5⟩ := k5.read; have y5 := k5.lt
  replace hBw : Below w.heap.size w w9 := belowThru (by (repeat' first | (with_reducible exact Below.refl _ _) | (with_reducible assumption) | (with_reducible refine belowThru ?_ (by assumption)) | (with_reducible refine belowAlloc ?_))) hb
  have hzw9 := hBw.size
  clear hb
  go_wp2_with fail
  refine (HZ.out _).mono ?_
  rintro e w10 ⟨rfl, hb⟩
  replace hb1 : Below w2.heap.size w2 w10 := belowThru (by (repeat' first | (with_reducible exact Below.refl _ _) | (with_reducible assumption) | (with_reducible refine belowThru ?_ (by assumption)) | (with_reducible refine belowAlloc ?_))) hb
  have kn0 : Blk w10 (w3.heap.size) #[.int .i64 x1, .int .i64 x2] 23 := Blk.later hb (by (repeat' first | (with_reducible assumption) | ((with_reducible refine Blk.new ?_); first | rfl | (simp; done)) | (with_reducible refine Blk.alloc ?_)))
  have kn1 : Blk w10 (w4.heap.size) #[.int .i64 o1, .int .i64 o2] 23 := Blk.later hb (by (repeat' first | (with_reducible assumption) | ((with_reducible refine Blk.new ?_); first | rfl | (simp; done)) | (with_reducible refine Blk.alloc ?_)))
  have kn2 : Blk w10 (w5.heap.size) #[.int .i64 s1, .int .i64 s2, .int .i64 s3, .int .i64 s4] 30 := Blk.later hb (by (repeat' first | (with_reducible assumption) | ((with_reducible refine Blk.new ?_); first | rfl | (simp; done)) | (with_reducible refine Blk.alloc ?_)))
  have kn3 : Blk w10 (w6.heap.size) #[.int .i64 r1, .int .i64 r2, .int .i64 r3, .int .i64 r4] 30 := Blk.later hb (by (repeat' first | (with_reducible assumption) | ((with_reducible refine Blk.new ?_); first | rfl | (simp; done)) | (with_reducible refine Blk.alloc ?_)))
  have kn4 : Blk w10 (w7.heap.size) #[.int .i64 u1, .int .i64 u2, .int .i64 u3, .int .i64 u4] 30 := Blk.later hb (by (repeat' first | (with_reducible assumption) | ((with_reducible refine Blk.new ?_); first | rfl | (simp; done)) | (with_reducible refine Blk.alloc ?_)))
  have kn5 : Blk w10 (w8.heap.size) #[.int .i64 u1, .int .i64 u2, .int .i64 u3, .int .i64 u4] 30 := Blk.later hb (by (repeat' first | (with_reducible assumption) | ((with_reducible refine Blk.new ?_); first | rfl | (simp; done)) | (with_reducible refine Blk.alloc ?_)))
  have kn6 : Blk w10 (w9.heap.size) #[.int .i64 e1, .int .i64 e2] 23 := Blk.later hb (by (repeat' first | (with_reducible assumption) | ((with_reducible refine Blk.new ?_); first | rfl | (simp; done)) | (with_reducible refine Blk.alloc ?_)))
  clear k0 a0 b0 y0
  clear k1 a1 b1 y1
  clear k2 a2 b2 y2
  clear k3 a3 b3 y3
  clear k4 a4 b4 y4
  clear k5 a5 b5 y5
  have k0 := kn0; clear kn0; obtain ⟨a0, b0⟩ := k0.read; have y0 := k0.lt
  have k1 := kn1; clear kn1; obtain ⟨a1, b1⟩ := k1.read; have y1 := k1.lt
  have k2 := kn2; clear kn2; obtain ⟨a2, b2⟩ := k2.read; have y2 := k2.lt
  have k3 := kn3; clear kn3; obtain ⟨a3, b3⟩ := k3.read; have y3 := k3.lt
  have k4 := kn4; clear kn4; obtain ⟨a4, b4⟩ := k4.read; have y4 := k4.lt
  have k5 := kn5; clear kn5; obtain ⟨a5, b5⟩ := k5.read; have y5 := k5.lt
  have k6 := kn6; clear kn6; obtain ⟨a6, b6⟩ := k6.read; have y6 := k6.lt
  replace hBw : Below w.heap.size w w10 := belowThru (by (repeat' first | (with_reducible exact Below.refl _ _) | (with_reducible assumption) | (with_reducible refine belowThru ?_ (by assumption)) | (with_reducible refine belowAlloc ?_))) hb
  have hzw10 := hBw.size
  clear hb
  go_wp2_with fail
  refine (HL.out _).mono ?_
  rintro e w11 ⟨rfl, hb⟩
  replace hb1 : Below w2.heap.size w2 w11 := belowThru (by (repeat' first | (with_reducible exact Below.refl _ _) | (with_reducible assumption) | (with_reducible refine belowThru ?_ (by assumption)) | (with_reducible refine belowAlloc ?_))) hb
  have kn0 : Blk w11 (w3.heap.size) #[.int .i64 x1, .int .i64 x2] 23 := Blk.later hb (by (repeat' first | (with_reducible assumption) | ((with_reducible refine Blk.new ?_); first | rfl | (simp; done)) | (with_reducible refine Blk.alloc ?_)))
  have kn1 : Blk w11 (w4.heap.size) #[.int .i64 o1, .int .i64 o2] 23 := Blk.later hb (by (repeat' first | (with_reducible assumption) | ((with_reducible refine Blk.new ?_); first | rfl | (simp; done)) | (with_reducible refine Blk.alloc ?_)))
  have kn2 : Blk w11 (w5.heap.size) #[.int .i64 s1, .int .i64 s2, .int .i64 s3, .int .i64 s4] 30 := Blk.later hb (by (repeat' first | (with_reducible assumption) | ((with_reducible refine Blk.new ?_); first | rfl | (simp; done)) | (with_reducible refine Blk.alloc ?_)))
  have kn3 : Blk w11 (w6.heap.size) #[.int .i64 r1, .int .i64 r2, .int .i64 r3, .int .i64 r4] 30 := Blk.later hb (by (repeat' first | (with_reducible assumption) | ((with_reducible refine Blk.new ?_); first | rfl | (simp; done)) | (with_reducible refine Blk.alloc ?_)))
  have kn4 : Blk w11 (w7.heap.size) #[.int .i64 u1, .int .i64 u2, .int .i64 u3, .int .i64 u4] 30 := Blk.later hb (by (repeat' first | (with_reducible assumption) | ((with_reducible refine Blk.new ?_); first | rfl | (simp; done)) | (with_reducible refine Blk.alloc ?_)))
  have kn5 : Blk w11 (w8.heap.size) #[.int .i64 u1, .int .i64 u2, .int .i64 u3, .int .i64 u4] 30 := Blk.later hb (by (repeat' first | (with_reducible assumption) | ((with_reducible refine Blk.new ?_); first | rfl | (simp; done)) | (with_reducible refine Blk.alloc ?_)))
  have kn6 : Blk w11 (w9.heap.size) #[.int .i64 e1, .int .i64 e2] 23 := Blk.later hb (by (repeat' first | (with_reducible assumption) | ((with_reducible refine Blk.new ?_); first | rfl | (simp; done)) | (with_reducible refine Blk.alloc ?_)))
  have kn7 : Blk w11 (w10.heap.size) #[.int .i64 z1, .int .i64 z2] 23 := Blk.later hb (by (repeat' first | (with_reducible assumption) | ((with_reducible refine Blk.new ?_); first | rfl | (simp; done)) | (with_reducible refine Blk.alloc ?_)))
  clear k0 a0 b0 y0
  clear k1 a1 b1 y1
  clear k2 a2 b2 y2
  clear k3 a3 b3 y3
  clear k4 a4 b4 y4
  clear k5 a5 b5 y5
  clear k6 a6 b6 y6
  have k0 := kn0; clear kn0; obtain ⟨a0, b0⟩ := k0.read; have y0 := k0.lt
  have k1 := kn1; clear kn1; obtain ⟨a1, b1⟩ := k1.read; have y1 := k1.lt
  have k2 := kn2; clear kn2; obtain ⟨a2, b2⟩ := k2.read; have y2 := k2.lt
  have k3 := kn3; clear kn3; obtain ⟨a3, b3⟩ := k3.read; have y3 := k3.lt
  have k4 := kn4; clear kn4; obtain ⟨a4, b4⟩ := k4.read; have y4 := k4.lt
  have k5 := kn5; clear kn5; obtain ⟨a5, b5⟩ := k5.read; have y5 := k5.lt
  have k6 := kn6; clear kn6; obtain ⟨a6, b6⟩ := k6.read; have y6 := k6.lt
  have k7 := kn7; clear kn7; obtain ⟨a7, b7⟩ := k7.read; have y7 := k7.lt
  replace hBw : Below w.heap.size w w11 := belowThru (by (repeat' first | (with_reducible exact Below.refl _ _) | (with_reducible assumption) | (with_reducible refine belowThru ?_ (by assumption)) | (with_reducible refine belowAlloc ?_))) hb
  have hzw11 := hBw.size
  clear hb
  go_wp2_with fail
  refine (HH.out _).mono ?_
  rintro e w12 ⟨rfl, hb⟩
  replace hb1 : Below w2.heap.size w2 w12 := belowThru (by (repeat' first | (with_reducible exact Below.refl _ _) | (with_reducible assumption) | (with_reducible refine belowThru ?_ (by assumption)) | (with_reducible refine belowAlloc ?_))) hb
  have kn0 : Blk w12 (w3.heap.size) #[.int .i64 x1, .int .i64 x2] 23 := Blk.later hb (by (repeat' first | (with_reducible assumption) | ((with_reducible refine Blk.new ?_); first | rfl | (simp; done)) | (with_reducible refine Blk.alloc ?_)))
  have kn1 : Blk w12 (w4.heap.size) #[.int .i64 o1, .int .i64 o2] 23 := Blk.later hb (by (repeat' first | (with_reducible assumption) | ((with_reducible refine Blk.new ?_); first | rfl | (simp; done)) | (with_reducible refine Blk.alloc ?_)))
  have kn2 : Blk w12 (w5.heap.size) #[.int .i64 s1, .int .i64 s2, .int .i64 s3, .int .i64 s4] 30 := Blk.later hb (by (repeat' first | (with_reducible assumption) | ((with_reducible refine Blk.new ?_); first | rfl | (simp; done)) | (with_reducible refine Blk.alloc ?_)))
  have kn3 : Blk w12 (w6.heap.size) #[.int .i64 r1, .int .i64 r2, .int .i64 r3, .int .i64 r4] 30 := Blk.later hb (by (repeat' first | (with_reducible assumption) | ((with_reducible refine Blk.new ?_); first | rfl | (simp; done)) | (with_reducible refine Blk.alloc ?_)))
  have kn4 : Blk w12 (w7.heap.size) #[.int .i64 u1, .int .i64 u2, .int .i64 u3, .int .i64 u4] 30 := Blk.later hb (by (repeat' first | (with_reducible assumption) | ((with_reducible refine Blk.new ?_); first | rfl | (simp; done)) | (with_reducible refine Blk.alloc ?_)))
  have kn5 : Blk w12 (w8.heap.size) #[.int .i64 u1, .int .i64 u2, .int .i64 u3, .int .i64 u4] 30 := Blk.later hb (by (repeat' first | (with_reducible assumption) | ((with_reducible refine Blk.new ?_); first | rfl | (simp; done)) | (with_reducible refine Blk.alloc ?_)))
  have kn6 : Blk w12 (w9.heap.size) #[.int .i64 e1, .int .i64 e2] 23 := Blk.later hb (by (repeat' first | (with_reducible assumption) | ((with_reducible refine Blk.new ?_); first | rfl | (simp; done)) | (with_reducible refine Blk.alloc ?_)))
  have kn7 : Blk w12 (w10.heap.size) #[.int .i64 z1, .int .i64 z2] 23 := Blk.later hb (by (repeat' first | (with_reducible assumption) | ((with_reducible refine Blk.new ?_); first | rfl | (simp; done)) | (with_reducible refine Blk.alloc ?_)))
  have kn8 : Blk w12 (w11.heap.size) #[.int .i64 r1, .int .i64 r2] 23 := Blk.later hb (by (repeat' first | (with_reducible assumption) | ((with_reducible refine Blk.new ?_); first | rfl | (simp; done)) | (with_reducible refine Blk.alloc ?_)))
  clear k0 a0 b0 y0
  clear k1 a1 b1 y1
  clear k2 a2 b2 y2
  clear k3 a3 b3 y3
  clear k4 a4 b4 y4
  clear k5 a5 b5 y5
  clear k6 a6 b6 y6
  clear k7 a7 b7 y7
  have k0 := kn0; clear kn0; obtain ⟨a0, b0⟩ := k0.read; have y0 := k0.lt
  have k1 := kn1; clear kn1; obtain ⟨a1, b1⟩ := k1.read; have y1 := k1.lt
  have k2 := kn2; clear kn2; obtain ⟨a2, b2⟩ := k2.read; have y2 := k2.lt
  have k3 := kn3; clear kn3; obtain ⟨a3, b3⟩ := k3.read; have y3 := k3.lt
  have k4 := kn4; clear kn4; obtain ⟨a4, b4⟩ := k4.read; have y4 := k4.lt
  have k5 := kn5; clear kn5; obtain ⟨a5, b5⟩ := k5.read; have y5 := k5.lt
  have k6 := kn6; clear kn6; obtain ⟨a6, b6⟩ := k6.read; have y6 := k6.lt
  have k7 := kn7; clear kn7; obtain ⟨a7, b7⟩ := k7.read; have y7 := k7.lt
  have k8 := kn8; clear kn8; obtain ⟨a8, b8⟩ := k8.read; have y8 := k8.lt
  replace hBw : Below w.heap.size w w12 := belowThru (by (repeat' first | (with_reducible exact Below.refl _ _) | (with_reducible assumption) | (with_reducible refine belowThru ?_ (by assumption)) | (with_reducible refine belowAlloc ?_))) hb
  have hzw12 := hBw.size
  clear hb
  go_wp2_with fail
  go_ret
  exact ⟨rfl, by (repeat' first | (with_reducible exact Below.refl _ _) | (with_reducible assumption) | (with_reducible refine belowThru ?_ (by assumption)) | (with_reducible refine belowAlloc ?_))⟩
set_option maxRecDepth 100000 in
set_option maxHeartbeats 16000000 in
theorem mirror_11 (a : Option Addr) (n c : Nat) (zs : List Int) (t p nz : Int) (w : World) (hR : Row w a n (iv zs)) (hl : n ≤ 64) (L : List Int) (M q x1 x2 o1 o2 z1 z2 s1 s2 s3 s4 r1 r2 r3 r4 u1 u2 u3 u4 e1 e2 lo1 lo2 hi1 hi2 E G J K Q V : Int) (hM : IntKind.i64.wrap ((n : Int) - 1) = M) (hq : IntKind.i64.wrap (M - p) = q) (hE : (E == 0) = false) (hG : (G != 0) = true)
    (HX : Hid (∀ w : World, Row w a n (iv zs) → Calls Try.prog 17 #[.slice a n c, .int .i64 t, .int .i64 p] w fun e w' => e = .returned (.tuple #[.agg #[.int .i64 x1, .int .i64 x2], .int .i64 E]) ∧ Below w.heap.size w w')) (HY : Hid (∀ (v : Option Addr) (c : Nat) (w : World), Row w v n (iv L) → Calls Try.prog 19 #[.slice v n c, .int .i64 t, .int .i64 q] w fun e w' => e = .returned (.tuple #[.agg #[.int .i64 o1, .int .i64 o2], .int .i64 E]) ∧ Below w.heap.size w w')) (HS : Hid (∀ w : World, Row w a n (iv zs) → Calls Try.prog 21 #[.slice a n c, .int .i64 t, .int .i64 p, .int .i64 nz] w fun e w' => e = .returned (.tuple #[.agg #[.int .i64 s1, .int .i64 s2, .int .i64 s3, .int .i64 s4], .int .i64 G]) ∧ Below w.heap.size w w')) (HT : Hid (∀ (v : Option Addr) (c : Nat) (w : World), Row w v n (iv L) → Calls Try.prog 20 #[.slice v n c, .int .i64 t, .int .i64 q, .int .i64 nz] w fun e w' => e = .returned (.tuple #[.agg #[.int .i64 r1, .int .i64 r2, .int .i64 r3, .int .i64 r4], .int .i64 G]) ∧ Below w.heap.size w w')) (HU : Hid (∀ w : World, Row w a n (iv zs) → Calls Try.prog 39 #[.slice a n c, .int .i64 t, .int .i64 nz] w fun e w' => e = .returned (.tuple #[.agg #[.int .i64 u1, .int .i64 u2, .int .i64 u3, .int .i64 u4], .int .i64 J]) ∧ Below w.heap.size w w')) (HV : Hid (∀ (v : Option Addr) (c : Nat) (w : World), Row w v n (iv L) → Calls Try.prog 39 #[.slice v n c, .int .i64 t, .int .i64 nz] w fun e w' => e = .returned (.tuple #[.agg #[.int .i64 u1, .int .i64 u2, .int .i64 u3, .int .i64 u4], .int .i64 J]) ∧ Below w.heap.size w w')) (HF : Hid (∀ w, Calls Try.prog 23 #[.int .i64 M, .int .i64 1] w fun e w' => e = .returned (.agg #[.int .i64 e1, .int .i64 e2]) ∧ Below w.heap.size w w')) (HZ : Hid (∀ w, Calls Try.prog 50 #[.agg #[.int .i64 e1, .int .i64 e2], .agg #[.int .i64 x1, .int .i64 x2]] w fun e w' => e = .returned (.tuple #[.agg #[.int .i64 z1, .int .i64 z2], .int .i64 K]) ∧ Below w.heap.size w w')) (HL : Hid (∀ w, Calls Try.prog 50 #[.agg #[.int .i64 e1, .int .i64 e2], .agg #[.int .i64 s3, .int .i64 s4]] w fun e w' => e = .returned (.tuple #[.agg #[.int .i64 lo1, .int .i64 lo2], .int .i64 Q]) ∧ Below w.heap.size w w')) (HH : Hid (∀ w, Calls Try.prog 50 #[.agg #[.int .i64 e1, .int .i64 e2], .agg #[.int .i64 s1, .int .i64 s2]] w fun e w' => e = .returned (.tuple #[.agg #[.int .i64 hi1, .int .i64 hi2], .int .i64 V]) ∧ Below w.heap.size w w')) (HV0 : Hid (∀ w, Row w a n (iv zs) → Calls Try.prog 49 #[.slice a n c] w fun e w' => ∃ v c', e = .returned (.slice v n c') ∧ Row w' v n (iv L) ∧ Below w.heap.size w w')) :
    Calls Try.prog 9 #[.slice a n c, .int .i64 t, .int .i64 p, .int .i64 nz] w fun e w' => e = .returned (.bool true) ∧ Below w.heap.size w w' := by
  have hd : decide (64 < (n : Int)) = false := by simp; omega
  have HR := Lib.hid hR
  clear hR
  go_enter Try.func9, Try.ntmps9
  go_wp2_with fail
  refine (alive_true _).mono ?_
  rintro e w1 ⟨rfl, hb⟩
  have hBw : Below w.heap.size w w1 := by (repeat' first | (with_reducible exact Below.refl _ _) | (with_reducible assumption) | (with_reducible refine belowThru ?_ (by assumption)) | (with_reducible refine belowAlloc ?_))
  have hzw1 := hBw.size
  clear hb
  go_wp2_with fail
  refine (HV0.out _ (HR.out.later (by (repeat' first | (with_reducible exact Below.refl _ _) | (with_reducible assumption) | (with_reducible refine belowThru ?_ (by assumption)) | (with_reducible refine belowAlloc ?_))))).mono ?_
  rintro e w2 ⟨v, c', rfl, hRow, hb⟩
  have HB := Lib.hid hRow
  clear hRow
  replace hBw : Below w.heap.size w w2 := belowThru (by (repeat' first | (with_reducible exact Below.refl _ _) | (with_reducible assumption) | (with_reducible refine belowThru ?_ (by assumption)) | (with_reducible refine belowAlloc ?_))) hb
  have hzw2 := hBw.size
  clear hb
  have hb1 : Below w2.heap.size w2 w2 := Below.refl _ _
  go_wp2_with fail
  refine (HX.out _ (HR.out.later (by (repeat' first | (with_reducible exact Below.refl _ _) | (with_reducible assumption) | (with_reducible refine belowThru ?_ (by assumption)) | (with_reducible refine belowAlloc ?_))))).mono ?_
  rintro e w3 ⟨rfl, hb⟩
  replace hb1 : Below w2.heap.size w2 w3 := belowThru (by (repeat' first | (with_reducible exact Below.refl _ _) | (with_reducible assumption) | (with_reducible refine belowThru ?_ (by assumption)) | (with_reducible refine belowAlloc ?_))) hb
  replace hBw : Below w.heap.size w w3 := belowThru (by (repeat' first | (with_reducible exact Below.refl _ _) | (with_reducible assumption) | (with_reducible refine belowThru ?_ (by assumption)) | (with_reducible refine belowAlloc ?_))) hb
  have hzw3 := hBw.size
  clear hb
  go_wp2_with fail
  refine (HY.out _ _ _ (HB.out.later (by (repeat' first | (with_reducible exact Below.refl _ _) | (with_reducible assumption) | (with_reducible refine belowThru ?_ (by assumption)) | (with_reducible refine belowAlloc ?_))))).mono ?_
  rintro e w4 ⟨rfl, hb⟩
  replace hb1 : Below w2.heap.size w2 w4 := belowThru (by (repeat' first | (with_reducible exact Below.refl _ _) | (with_reducible assumption) | (with_reducible refine belowThru ?_ (by assumption)) | (with_reducible refine belowAlloc ?_))) hb
  have kn0 : Blk w4 (w3.heap.size) #[.int .i64 x1, .int .i64 x2] 23 := Blk.later hb (by (repeat' first | (with_reducible assumption) | ((with_reducible refine Blk.new ?_); first | rfl | (simp; done)) | (with_reducible refine Blk.alloc ?_)))
  have k0 := kn0; clear kn0; obtain ⟨a0, b0⟩ := k0.read; have y0 := k0.lt
  replace hBw : Below w.heap.size w w4 := belowThru (by (repeat' first | (with_reducible exact Below.refl _ _) | (with_reducible assumption) | (with_reducible refine belowThru ?_ (by assumption)) | (with_reducible refine belowAlloc ?_))) hb
  have hzw4 := hBw.size
  clear hb
  go_wp2_with fail
  refine (HS.out _ (HR.out.later (by (repeat' first | (with_reducible exact Below.refl _ _) | (with_reducible assumption) | (with_reducible refine belowThru ?_ (by assumption)) | (with_reducible refine belowAlloc ?_))))).mono ?_
  rintro e w5 ⟨rfl, hb⟩
  replace hb1 : Below w2.heap.size w2 w5 := belowThru (by (repeat' first | (with_reducible exact Below.refl _ _) | (with_reducible assumption) | (with_reducible refine belowThru ?_ (by assumption)) | (with_reducible refine belowAlloc ?_))) hb
  have kn0 : Blk w5 (w3.heap.size) #[.int .i64 x1, .int .i64 x2] 23 := Blk.later hb (by (repeat' first | (with_reducible assumption) | ((with_reducible refine Blk.new ?_); first | rfl | (simp; done)) | (with_reducible refine Blk.alloc ?_)))
  have kn1 : Blk w5 (w4.heap.size) #[.int .i64 o1, .int .i64 o2] 23 := Blk.later hb (by (repeat' first | (with_reducible assumption) | ((with_reducible refine Blk.new ?_); first | rfl | (simp; done)) | (with_reducible refine Blk.alloc ?_)))
  clear k0 a0 b0 y0
  have k0 := kn0; clear kn0; obtain ⟨a0, b0⟩ := k0.read; have y0 := k0.lt
  have k1 := kn1; clear kn1; obtain ⟨a1, b1⟩ := k1.read; have y1 := k1.lt
  replace hBw : Below w.heap.size w w5 := belowThru (by (repeat' first | (with_reducible exact Below.refl _ _) | (with_reducible assumption) | (with_reducible refine belowThru ?_ (by assumption)) | (with_reducible refine belowAlloc ?_))) hb
  have hzw5 := hBw.size
  clear hb
  go_wp2_with fail
  refine (HT.out _ _ _ (HB.out.later (by (repeat' first | (with_reducible exact Below.refl _ _) | (with_reducible assumption) | (with_reducible refine belowThru ?_ (by assumption)) | (with_reducible refine belowAlloc ?_))))).mono ?_
  rintro e w6 ⟨rfl, hb⟩
  replace hb1 : Below w2.heap.size w2 w6 := belowThru (by (repeat' first | (with_reducible exact Below.refl _ _) | (with_reducible assumption) | (with_reducible refine belowThru ?_ (by assumption)) | (with_reducible refine belowAlloc ?_))) hb
  have kn0 : Blk w6 (w3.heap.size) #[.int .i64 x1, .int .i64 x2] 23 := Blk.later hb (by (repeat' first | (with_reducible assumption) | ((with_reducible refine Blk.new ?_); first | rfl | (simp; done)) | (with_reducible refine Blk.alloc ?_)))
  have kn1 : Blk w6 (w4.heap.size) #[.int .i64 o1, .int .i64 o2] 23 := Blk.later hb (by (repeat' first | (with_reducible assumption) | ((with_reducible refine Blk.new ?_); first | rfl | (simp; done)) | (with_reducible refine Blk.alloc ?_)))
  have kn2 : Blk w6 (w5.heap.size) #[.int .i64 s1, .int .i64 s2, .int .i64 s3, .int .i64 s4] 30 := Blk.later hb (by (repeat' first | (with_reducible assumption) | ((with_reducible refine Blk.new ?_); first | rfl | (simp; done)) | (with_reducible refine Blk.alloc ?_)))
  clear k0 a0 b0 y0
  clear k1 a1 b1 y1
  have k0 := kn0; clear kn0; obtain ⟨a0, b0⟩ := k0.read; have y0 := k0.lt
  have k1 := kn1; clear kn1; obtain ⟨a1, b1⟩ := k1.read; have y1 := k1.lt
  have k2 := kn2; clear kn2; obtain ⟨a2, b2⟩ := k2.read; have y2 := k2.lt
  replace hBw : Below w.heap.size w w6 := belowThru (by (repeat' first | (with_reducible exact Below.refl _ _) | (with_reducible assumption) | (with_reducible refine belowThru ?_ (by assumption)) | (with_reducible refine belowAlloc ?_))) hb
  have hzw6 := hBw.size
  clear hb
  go_wp2_with fail
  refine (HU.out _ (HR.out.later (by (repeat' first | (with_reducible exact Below.refl _ _) | (with_reducible assumption) | (with_reducible refine belowThru ?_ (by assumption)) | (with_reducible refine belowAlloc ?_))))).mono ?_
  rintro e w7 ⟨rfl, hb⟩
  replace hb1 : Below w2.heap.size w2 w7 := belowThru (by (repeat' first | (with_reducible exact Below.refl _ _) | (with_reducible assumption) | (with_reducible refine belowThru ?_ (by assumption)) | (with_reducible refine belowAlloc ?_))) hb
  have kn0 : Blk w7 (w3.heap.size) #[.int .i64 x1, .int .i64 x2] 23 := Blk.later hb (by (repeat' first | (with_reducible assumption) | ((with_reducible refine Blk.new ?_); first | rfl | (simp; done)) | (with_reducible refine Blk.alloc ?_)))
  have kn1 : Blk w7 (w4.heap.size) #[.int .i64 o1, .int .i64 o2] 23 := Blk.later hb (by (repeat' first | (with_reducible assumption) | ((with_reducible refine Blk.new ?_); first | rfl | (simp; done)) | (with_reducible refine Blk.alloc ?_)))
  have kn2 : Blk w7 (w5.heap.size) #[.int .i64 s1, .int .i64 s2, .int .i64 s3, .int .i64 s4] 30 := Blk.later hb (by (repeat' first | (with_reducible assumption) | ((with_reducible refine Blk.new ?_); first | rfl | (simp; done)) | (with_reducible refine Blk.alloc ?_)))
  have kn3 : Blk w7 (w6.heap.size) #[.int .i64 r1, .int .i64 r2, .int .i64 r3, .int .i64 r4] 30 := Blk.later hb (by (repeat' first | (with_reducible assumption) | ((with_reducible refine Blk.new ?_); first | rfl | (simp; done)) | (with_reducible refine Blk.alloc ?_)))
  clear k0 a0 b0 y0
  clear k1 a1 b1 y1
  clear k2 a2 b2 y2
  have k0 := kn0; clear kn0; obtain ⟨a0, b0⟩ := k0.read; have y0 := k0.lt
  have k1 := kn1; clear kn1; obtain ⟨a1, b1⟩ := k1.read; have y1 := k1.lt
  have k2 := kn2; clear kn2; obtain ⟨a2, b2⟩ := k2.read; have y2 := k2.lt
  have k3 := kn3; clear kn3; obtain ⟨a3, b3⟩ := k3.read; have y3 := k3.lt
  replace hBw : Below w.heap.size w w7 := belowThru (by (repeat' first | (with_reducible exact Below.refl _ _) | (with_reducible assumption) | (with_reducible refine belowThru ?_ (by assumption)) | (with_reducible refine belowAlloc ?_))) hb
  have hzw7 := hBw.size
  clear hb
  go_wp2_with fail
  refine (HV.out _ _ _ (HB.out.later (by (repeat' first | (with_reducible exact Below.refl _ _) | (with_reducible assumption) | (with_reducible refine belowThru ?_ (by assumption)) | (with_reducible refine belowAlloc ?_))))).mono ?_
  rintro e w8 ⟨rfl, hb⟩
  replace hb1 : Below w2.heap.size w2 w8 := belowThru (by (repeat' first | (with_reducible exact Below.refl _ _) | (with_reducible assumption) | (with_reducible refine belowThru ?_ (by assumption)) | (with_reducible refine belowAlloc ?_))) hb
  have kn0 : Blk w8 (w3.heap.size) #[.int .i64 x1, .int .i64 x2] 23 := Blk.later hb (by (repeat' first | (with_reducible assumption) | ((with_reducible refine Blk.new ?_); first | rfl | (simp; done)) | (with_reducible refine Blk.alloc ?_)))
  have kn1 : Blk w8 (w4.heap.size) #[.int .i64 o1, .int .i64 o2] 23 := Blk.later hb (by (repeat' first | (with_reducible assumption) | ((with_reducible refine Blk.new ?_); first | rfl | (simp; done)) | (with_reducible refine Blk.alloc ?_)))
  have kn2 : Blk w8 (w5.heap.size) #[.int .i64 s1, .int .i64 s2, .int .i64 s3, .int .i64 s4] 30 := Blk.later hb (by (repeat' first | (with_reducible assumption) | ((with_reducible refine Blk.new ?_); first | rfl | (simp; done)) | (with_reducible refine Blk.alloc ?_)))
  have kn3 : Blk w8 (w6.heap.size) #[.int .i64 r1, .int .i64 r2, .int .i64 r3, .int .i64 r4] 30 := Blk.later hb (by (repeat' first | (with_reducible assumption) | ((with_reducible refine Blk.new ?_); first | rfl | (simp; done)) | (with_reducible refine Blk.alloc ?_)))
  have kn4 : Blk w8 (w7.heap.size) #[.int .i64 u1, .int .i64 u2, .int .i64 u3, .int .i64 u4] 30 := Blk.later hb (by (repeat' first | (with_reducible assumption) | ((with_reducible refine Blk.new ?_); first | rfl | (simp; done)) | (with_reducible refine Blk.alloc ?_)))
  clear k0 a0 b0 y0
  clear k1 a1 b1 y1
  clear k2 a2 b2 y2
  clear k3 a3 b3 y3
  have k0 := kn0; clear kn0; obtain ⟨a0, b0⟩ := k0.read; have y0 := k0.lt
  have k1 := kn1; clear kn1; obtain ⟨a1, b1⟩ := k1.read; have y1 := k1.lt
  have k2 := kn2; clear kn2; obtain ⟨a2, b2⟩ := k2.read; have y2 := k2.lt
  have k3 := kn3; clear kn3; obtain ⟨a3, b3⟩ := k3.read; have y3 := k3.lt
  have k4 := kn4; clear kn4; obtain ⟨a4, b4⟩ := k4.read; have y4 := k4.lt
  replace hBw : Below w.heap.size w w8 := belowThru (by (repeat' first | (with_reducible exact Below.refl _ _) | (with_reducible assumption) | (with_reducible refine belowThru ?_ (by assumption)) | (with_reducible refine belowAlloc ?_))) hb
  have hzw8 := hBw.size
  clear hb
  go_wp2_with fail
  refine (HF.out _).mono ?_
  rintro e w9 ⟨rfl, hb⟩
  replace hb1 : Below w2.heap.size w2 w9 := belowThru (by (repeat' first | (with_reducible exact Below.refl _ _) | (with_reducible assumption) | (with_reducible refine belowThru ?_ (by assumption)) | (with_reducible refine belowAlloc ?_))) hb
  have kn0 : Blk w9 (w3.heap.size) #[.int .i64 x1, .int .i64 x2] 23 := Blk.later hb (by (repeat' first | (with_reducible assumption) | ((with_reducible refine Blk.new ?_); first | rfl | (simp; done)) | (with_reducible refine Blk.alloc ?_)))
  have kn1 : Blk w9 (w4.heap.size) #[.int .i64 o1, .int .i64 o2] 23 := Blk.later hb (by (repeat' first | (with_reducible assumption) | ((with_reducible refine Blk.new ?_); first | rfl | (simp; done)) | (with_reducible refine Blk.alloc ?_)))
  have kn2 : Blk w9 (w5.heap.size) #[.int .i64 s1, .int .i64 s2, .int .i64 s3, .int .i64 s4] 30 := Blk.later hb (by (repeat' first | (with_reducible assumption) | ((with_reducible refine Blk.new ?_); first | rfl | (simp; done)) | (with_reducible refine Blk.alloc ?_)))
  have kn3 : Blk w9 (w6.heap.size) #[.int .i64 r1, .int .i64 r2, .int .i64 r3, .int .i64 r4] 30 := Blk.later hb (by (repeat' first | (with_reducible assumption) | ((with_reducible refine Blk.new ?_); first | rfl | (simp; done)) | (with_reducible refine Blk.alloc ?_)))
  have kn4 : Blk w9 (w7.heap.size) #[.int .i64 u1, .int .i64 u2, .int .i64 u3, .int .i64 u4] 30 := Blk.later hb (by (repeat' first | (with_reducible assumption) | ((with_reducible refine Blk.new ?_); first | rfl | (simp; done)) | (with_reducible refine Blk.alloc ?_)))
  have kn5 : Blk w9 (w8.heap.size) #[.int .i64 u1, .int .i64 u2, .int .i64 u3, .int .i64 u4] 30 := Blk.later hb (by (repeat' first | (with_reducible assumption) | ((with_reducible refine Blk.new ?_); first | rfl | (simp; done)) | (with_reducible refine Blk.alloc ?_)))
  clear k0 a0 b0 y0
  clear k1 a1 b1 y1
  clear k2 a2 b2 y2
  clear k3 a3 b3 y3
  clear k4 a4 b4 y4
  have k0 := kn0; clear kn0; obtain ⟨a0, b0⟩ := k0.read; have y0 := k0.lt
  have k1 := kn1; clear kn1; obtain ⟨a1, b1⟩ := k1.read; have y1 := k1.lt
  have k2 := kn2; clear kn2; obtain ⟨a2, b2⟩ := k2.read; have y2 := k2.lt
  have k3 := kn3; clear kn3; obtain ⟨a3, b3⟩ := k3.read; have y3 := k3.lt
  have k4 := kn4; clear kn4; obtain ⟨a4, b4⟩ := k4.read; have y4 := k4.lt
  have k5 := kn5; clear kn5; obtain ⟨a5, b5⟩ := k5.read; have y5 := k5.lt
  replace hBw : Below w.heap.size w w9 := belowThru (by (repeat' first | (with_reducible exact Below.refl _ _) | (with_reducible assumption) | (with_reducible refine belowThru ?_ (by assumption)) | (with_reducible refine belowAlloc ?_))) hb
  have hzw9 := hBw.size
  clear hb
  go_wp2_with fail
  refine (HZ.out _).mono ?_
  rintro e w10 ⟨rfl, hb⟩
  replace hb1 : Below w2.heap.size w2 w10 := belowThru (by (repeat' first | (with_reducible exact Below.refl _ _) | (with_reducible assumption) | (with_reducible refine belowThru ?_ (by assumption)) | (with_reducible refine belowAlloc ?_))) hb
  have kn0 : Blk w10 (w3.heap.size) #[.int .i64 x1, .int .i64 x2] 23 := Blk.later hb (by (repeat' first | (with_reducible assumption) | ((with_reducible refine Blk.new ?_); first | rfl | (simp; done)) | (with_reducible refine Blk.alloc ?_)))
  have kn1 : Blk w10 (w4.heap.size) #[.int .i64 o1, .int .i64 o2] 23 := Blk.later hb (by (repeat' first | (with_reducible assumption) | ((with_reducible refine Blk.new ?_); first | rfl | (simp; done)) | (with_reducible refine Blk.alloc ?_)))
  have kn2 : Blk w10 (w5.heap.size) #[.int .i64 s1, .int .i64 s2, .int .i64 s3, .int .i64 s4] 30 := Blk.later hb (by (repeat' first | (with_reducible assumption) | ((with_reducible refine Blk.new ?_); first | rfl | (simp; done)) | (with_reducible refine Blk.alloc ?_)))
  have kn3 : Blk w10 (w6.heap.size) #[.int .i64 r1, .int .i64 r2, .int .i64 r3, .int .i64 r4] 30 := Blk.later hb (by (repeat' first | (with_reducible assumption) | ((with_reducible refine Blk.new ?_); first | rfl | (simp; done)) | (with_reducible refine Blk.alloc ?_)))
  have kn4 : Blk w10 (w7.heap.size) #[.int .i64 u1, .int .i64 u2, .int .i64 u3, .int .i64 u4] 30 := Blk.later hb (by (repeat' first | (with_reducible assumption) | ((with_reducible refine Blk.new ?_); first | rfl | (simp; done)) | (with_reducible refine Blk.alloc ?_)))
  have kn5 : Blk w10 (w8.heap.size) #[.int .i64 u1, .int .i64 u2, .int .i64 u3, .int .i64 u4] 30 := Blk.later hb (by (repeat' first | (with_reducible assumption) | ((with_reducible refine Blk.new ?_); first | rfl | (simp; done)) | (with_reducible refine Blk.alloc ?_)))
  have kn6 : Blk w10 (w9.heap.size) #[.int .i64 e1, .int .i64 e2] 23 := Blk.later hb (by (repeat' first | (with_reducible assumption) | ((with_reducible refine Blk.new ?_); first | rfl | (simp; done)) | (with_reducible refine Blk.alloc ?_)))
  clear k0 a0 b0 y0
  clear k1 a1 b1 y1
  clear k2 a2 b2 y2
  clear k3 a3 b3 y3
  clear k4 a4 b4 y4
  clear k5 a5 b5 y5
  have k0 := kn0; clear kn0; obtain ⟨a0, b0⟩ := k0.read; have y0 := k0.lt
  have k1 := kn1; clear kn1; obtain ⟨a1, b1⟩ := k1.read; have y1 := k1.lt
  have k2 := kn2; clear kn2; obtain ⟨a2, b2⟩ := k2.read; have y2 := k2.lt
  have k3 := kn3; clear kn3; obtain ⟨a3, b3⟩ := k3.read; have y3 := k3.lt
  have k4 := kn4; clear kn4; obtain ⟨a4, b4⟩ := k4.read; have y4 := k4.lt
  have k5 := kn5; clear kn5; obtain ⟨a5, b5⟩ := k5.read; have y5 := k5.lt
  have k6 := kn6; clear kn6; obtain ⟨a6, b6⟩ := k6.read; have y6 := k6.lt
  replace hBw : Below w.heap.size w w10 := belowThru (by (repeat' first | (with_reducible exact Below.refl _ _) | (with_reducible assumption) | (with_reducible refine belowThru ?_ (by assumption)) | (with_reducible refine belowAlloc ?_))) hb
  have hzw10 := hBw.size
  clear hb
  go_wp2_with fail
  refine (HL.out _).mono ?_
  rintro e w11 ⟨rfl, hb⟩
  replace hb1 : Below w2.heap.size w2 w11 := belowThru (by (repeat' first | (with_reducible exact Below.refl _ _) | (with_reducible assumption) | (with_reducible refine belowThru ?_ (by assumption)) | (with_reducible refine belowAlloc ?_))) hb
  have kn0 : Blk w11 (w3.heap.size) #[.int .i64 x1, .int .i64 x2] 23 := Blk.later hb (by (repeat' first | (with_reducible assumption) | ((with_reducible refine Blk.new ?_); first | rfl | (simp; done)) | (with_reducible refine Blk.alloc ?_)))
  have kn1 : Blk w11 (w4.heap.size) #[.int .i64 o1, .int .i64 o2] 23 := Blk.later hb (by (repeat' first | (with_reducible assumption) | ((with_reducible refine Blk.new ?_); first | rfl | (simp; done)) | (with_reducible refine Blk.alloc ?_)))
  have kn2 : Blk w11 (w5.heap.size) #[.int .i64 s1, .int .i64 s2, .int .i64 s3, .int .i64 s4] 30 := Blk.later hb (by (repeat' first | (with_reducible assumption) | ((with_reducible refine Blk.new ?_); first | rfl | (simp; done)) | (with_reducible refine Blk.alloc ?_)))
  have kn3 : Blk w11 (w6.heap.size) #[.int .i64 r1, .int .i64 r2, .int .i64 r3, .int .i64 r4] 30 := Blk.later hb (by (repeat' first | (with_reducible assumption) | ((with_reducible refine Blk.new ?_); first | rfl | (simp; done)) | (with_reducible refine Blk.alloc ?_)))
  have kn4 : Blk w11 (w7.heap.size) #[.int .i64 u1, .int .i64 u2, .int .i64 u3, .int .i64 u4] 30 := Blk.later hb (by (repeat' first | (with_reducible assumption) | ((with_reducible refine Blk.new ?_); first | rfl | (simp; done)) | (with_reducible refine Blk.alloc ?_)))
  have kn5 : Blk w11 (w8.heap.size) #[.int .i64 u1, .int .i64 u2, .int .i64 u3, .int .i64 u4] 30 := Blk.later hb (by (repeat' first | (with_reducible assumption) | ((with_reducible refine Blk.new ?_); first | rfl | (simp; done)) | (with_reducible refine Blk.alloc ?_)))
  have kn6 : Blk w11 (w9.heap.size) #[.int .i64 e1, .int .i64 e2] 23 := Blk.later hb (by (repeat' first | (with_reducible assumption) | ((with_reducible refine Blk.new ?_); first | rfl | (simp; done)) | (with_reducible refine Blk.alloc ?_)))
  have kn7 : Blk w11 (w10.heap.size) #[.int .i64 z1, .int .i64 z2] 23 := Blk.later hb (by (repeat' first | (with_reducible assumption) | ((with_reducible refine Blk.new ?_); first | rfl | (simp; done)) | (with_reducible refine Blk.alloc ?_)))
  clear k0 a0 b0 y0
  clear k1 a1 b1 y1
  clear k2 a2 b2 y2
  clear k3 a3 b3 y3
  clear k4 a4 b4 y4
  clear k5 a5 b5 y5
  clear k6 a6 b6 y6
  have k0 := kn0; clear kn0; obtain ⟨a0, b0⟩ := k0.read; have y0 := k0.lt
  have k1 := kn1; clear kn1; obtain ⟨a1, b1⟩ := k1.read; have y1 := k1.lt
  have k2 := kn2; clear kn2; obtain ⟨a2, b2⟩ := k2.read; have y2 := k2.lt
  have k3 := kn3; clear kn3; obtain ⟨a3, b3⟩ := k3.read; have y3 := k3.lt
  have k4 := kn4; clear kn4; obtain ⟨a4, b4⟩ := k4.read; have y4 := k4.lt
  have k5 := kn5; clear kn5; obtain ⟨a5, b5⟩ := k5.read; have y5 := k5.lt
  have k6 := kn6; clear kn6; obtain ⟨a6, b6⟩ := k6.read; have y6 := k6.lt
  have k7 := kn7; clear kn7; obtain ⟨a7, b7⟩ := k7.read; have y7 := k7.lt
  replace hBw : Below w.heap.size w w11 := belowThru (by (repeat' first | (with_reducible exact Below.refl _ _) | (with_reducible assumption) | (with_reducible refine belowThru ?_ (by assumption)) | (with_reducible refine belowAlloc ?_))) hb
  have hzw11 := hBw.size
  clear hb
  go_wp2_with fail
  refine (HH.out _).mono ?_
  rintro e w12 ⟨rfl, hb⟩
  replace hb1 : Below w2.heap.size w2 w12 := belowThru (by (repeat' first | (with_reducible exact Below.refl _ _) | (with_reducible assumption) | (with_reducible refine belowThru ?_ (by assumption)) | (with_reducible refine belowAlloc ?_))) hb
  have kn0 : Blk w12 (w3.heap.size) #[.int .i64 x1, .int .i64 x2] 23 := Blk.later hb (by (repeat' first | (with_reducible assumption) | ((with_reducible refine Blk.new ?_); first | rfl | (simp; done)) | (with_reducible refine Blk.alloc ?_)))
  have kn1 : Blk w12 (w4.heap.size) #[.int .i64 o1, .int .i64 o2] 23 := Blk.later hb (by (repeat' first | (with_reducible assumption) | ((with_reducible refine Blk.new ?_); first | rfl | (simp; done)) | (with_reducible refine Blk.alloc ?_)))
  have kn2 : Blk w12 (w5.heap.size) #[.int .i64 s1, .int .i64 s2, .int .i64 s3, .int .i64 s4] 30 := Blk.later hb (by (repeat' first | (with_reducible assumption) | ((with_reducible refine Blk.new ?_); first | rfl | (simp; done)) | (with_reducible refine Blk.alloc ?_)))
  have kn3 : Blk w12 (w6.heap.size) #[.int .i64 r1, .int .i64 r2, .int .i64 r3, .int .i64 r4] 30 := Blk.later hb (by (repeat' first | (with_reducible assumption) | ((with_reducible refine Blk.new ?_); first | rfl | (simp; done)) | (with_reducible refine Blk.alloc ?_)))
  have kn4 : Blk w12 (w7.heap.size) #[.int .i64 u1, .int .i64 u2, .int .i64 u3, .int .i64 u4] 30 := Blk.later hb (by (repeat' first | (with_reducible assumption) | ((with_reducible refine Blk.new ?_); first | rfl | (simp; done)) | (with_reducible refine Blk.alloc ?_)))
  have kn5 : Blk w12 (w8.heap.size) #[.int .i64 u1, .int .i64 u2, .int .i64 u3, .int .i64 u4] 30 := Blk.later hb (by (repeat' first | (with_reducible assumption) | ((with_reducible refine Blk.new ?_); first | rfl | (simp; done)) | (with_reducible refine Blk.alloc ?_)))
  have kn6 : Blk w12 (w9.heap.size) #[.int .i64 e1, .int .i64 e2] 23 := Blk.later hb (by (repeat' first | (with_reducible assumption) | ((with_reducible refine Blk.new ?_); first | rfl | (simp; done)) | (with_reducible refine Blk.alloc ?_)))
  have kn7 : Blk w12 (w10.heap.size) #[.int .i64 z1, .int .i64 z2] 23 := Blk.later hb (by (repeat' first | (with_reducible assumption) | ((with_reducible refine Blk.new ?_); first | rfl | (simp; done)) | (with_reducible refine Blk.alloc ?_)))
  have kn8 : Blk w12 (w11.heap.size) #[.int .i64 lo1, .int .i64 lo2] 23 := Blk.later hb (by (repeat' first | (with_reducible assumption) | ((with_reducible refine Blk.new ?_); first | rfl | (simp; done)) | (with_reducible refine Blk.alloc ?_)))
  clear k0 a0 b0 y0
  clear k1 a1 b1 y1
  clear k2 a2 b2 y2
  clear k3 a3 b3 y3
  clear k4 a4 b4 y4
  clear k5 a5 b5 y5
  clear k6 a6 b6 y6
  clear k7 a7 b7 y7
  have k0 := kn0; clear kn0; obtain ⟨a0, b0⟩ := k0.read; have y0 := k0.lt
  have k1 := kn1; clear kn1; obtain ⟨a1, b1⟩ := k1.read; have y1 := k1.lt
  have k2 := kn2; clear kn2; obtain ⟨a2, b2⟩ := k2.read; have y2 := k2.lt
  have k3 := kn3; clear kn3; obtain ⟨a3, b3⟩ := k3.read; have y3 := k3.lt
  have k4 := kn4; clear kn4; obtain ⟨a4, b4⟩ := k4.read; have y4 := k4.lt
  have k5 := kn5; clear kn5; obtain ⟨a5, b5⟩ := k5.read; have y5 := k5.lt
  have k6 := kn6; clear kn6; obtain ⟨a6, b6⟩ := k6.read; have y6 := k6.lt
  have k7 := kn7; clear kn7; obtain ⟨a7, b7⟩ := k7.read; have y7 := k7.lt
  have k8 := kn8; clear kn8; obtain ⟨a8, b8⟩ := k8.read; have y8 := k8.lt
  replace hBw : Below w.heap.size w w12 := belowThru (by (repeat' first | (with_reducible exact Below.refl _ _) | (with_reducible assumption) | (with_reducible refine belowThru ?_ (by assumption)) | (with_reducible refine belowAlloc ?_))) hb
  have hzw12 := hBw.size
  clear hb
  go_wp2_with fail
  go_ret
  exact ⟨rfl, by (repeat' first | (with_reducible exact Below.refl _ _) | (with_reducible assumption) | (with_reducible refine belowThru ?_ (by assumption)) | (with_reducible refine belowAlloc ?_))⟩
end Go.Proofs.Ytbcgebobfnclnaa
