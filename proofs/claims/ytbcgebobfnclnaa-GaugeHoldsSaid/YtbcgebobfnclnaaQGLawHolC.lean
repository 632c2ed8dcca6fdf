/-
  The law GaugeHolds: the walk.
-/
import Derived.Test.YtbcgebobfnclnaaM6
namespace Go.Proofs.Ytbcgebobfnclnaa
open Go.RowKit Go.Shelf
set_option linter.unusedVariables false
set_option linter.unusedSimpArgs false

set_option maxRecDepth 100000 in
set_option maxHeartbeats 16000000 in
theorem holds_100 (a : Option Addr) (n c : Nat) (zs : List Int) (a2 : Option Addr) (m2 c2 : Nat) (ms : List Int) (t p nz : Int) (w : World) (hR : Row w a n (iv zs)) (hR2 : Row w a2 m2 (hv ms)) (hl : n ≤ 64) (h0 : 0 ≤ nz) (h1 : nz ≤ 64) (hp0 : 0 ≤ p) (hp1 : p < (n : Int)) (L K : List Int) (B1 B2 B3 B4 : Bool) (r1 r2 r3 r4 f1 f2 f3 f4 d1 d2 d3 d4 E G H M q T A1 A2 C1 C2 D1 D2 F1 F2 X1 X2 Y1 Y2 Y3 Y4 Y5 Y6 : Int) (hM : IntKind.i64.wrap ((n : Int) - 1) = M) (hq : IntKind.i64.wrap (M - p) = q) (hT : IntKind.i64.wrap (4 * t) = T) (hX1 : IntKind.i64.wrap (M * C2) = X1) (hX2 : IntKind.i64.wrap (X1 - C1) = X2) (hY1 : IntKind.i64.wrap (M * F2) = Y1) (hY2 : IntKind.i64.wrap (Y1 - F1) = Y2) (hY3 : IntKind.i64.wrap (Y2 * D2) = Y3) (hY4 : IntKind.i64.wrap (D1 * F2) = Y4) (hY5 : IntKind.i64.wrap (Y3 - Y4) = Y5) (hY6 : IntKind.i64.wrap (D2 * F2) = Y6) (hE : (E == 0) = false)
    (HX : Hid (∀ w : World, Row w a n (iv zs) → Calls Try.prog 21 #[.slice a n c, .int .i64 t, .int .i64 p, .int .i64 nz] w fun e w' => e = .returned (.tuple #[.agg #[.int .i64 r1, .int .i64 r2, .int .i64 r3, .int .i64 r4], .int .i64 E]) ∧ Below w.heap.size w w')) (HY : Hid (∀ w : World, Row w a n (iv zs) → Calls Try.prog 20 #[.slice a n c, .int .i64 t, .int .i64 p, .int .i64 nz] w fun e w' => e = .returned (.tuple #[.agg #[.int .i64 f1, .int .i64 f2, .int .i64 f3, .int .i64 f4], .int .i64 0]) ∧ Below w.heap.size w w')) (HW : Hid (∀ w : World, Row w a n (iv zs) → Calls Try.prog 39 #[.slice a n c, .int .i64 t, .int .i64 nz] w fun e w' => e = .returned (.tuple #[.agg #[.int .i64 d1, .int .i64 d2, .int .i64 d3, .int .i64 d4], .int .i64 0]) ∧ Below w.heap.size w w')) (HV : Hid (∀ w : World, Row w a n (iv zs) → Calls Try.prog 51 #[.slice a n c] w fun e w' => e = .returned (.bool true) ∧ Below w.heap.size w w')) (HAL : Hid (∀ w : World, Row w a n (iv zs) → Row w a2 m2 (hv ms) → Calls Try.prog 52 #[.slice a n c, .slice a2 m2 c2, .int .i64 nz] w fun e w' => ∃ v c', e = .returned (.slice v n c') ∧ Row w' v n (iv L) ∧ Below w.heap.size w w')) (HRV : Hid (∀ (v : Option Addr) (c : Nat) (w : World), Row w v n (iv L) → Calls Try.prog 49 #[.slice v n c] w fun e w' => ∃ v' c', e = .returned (.slice v' n c') ∧ Row w' v' n (iv K) ∧ Below w.heap.size w w')) (HA : Hid (∀ (v : Option Addr) (c : Nat) (w : World), Row w v n (iv L) → Calls Try.prog 53 #[.slice v n c, .int .i64 T, .int .i64 p] w fun e w' => e = .returned (.tuple #[.int .i64 A1, .int .i64 A2, .bool B1]) ∧ Below w.heap.size w w')) (HC : Hid (∀ (v : Option Addr) (c : Nat) (w : World), Row w v n (iv K) → Calls Try.prog 53 #[.slice v n c, .int .i64 T, .int .i64 q] w fun e w' => e = .returned (.tuple #[.int .i64 C1, .int .i64 C2, .bool true]) ∧ Below w.heap.size w w')) (HD : Hid (∀ (v : Option Addr) (c : Nat) (w : World), Row w v n (iv L) → Calls Try.prog 53 #[.slice v n c, .int .i64 T, .int .i64 0] w fun e w' => e = .returned (.tuple #[.int .i64 D1, .int .i64 D2, .bool true]) ∧ Below w.heap.size w w')) (HF : Hid (∀ (v : Option Addr) (c : Nat) (w : World), Row w v n (iv K) → Calls Try.prog 53 #[.slice v n c, .int .i64 T, .int .i64 0] w fun e w' => e = .returned (.tuple #[.int .i64 F1, .int .i64 F2, .bool true]) ∧ Below w.heap.size w w')) (HOC : Hid (∀ w : World, Calls Try.prog 54 #[.agg #[.int .i64 f1, .int .i64 f2, .int .i64 f3, .int .i64 f4], .int .i64 X2, .int .i64 C2] w fun e w' => e = .returned (.bool true) ∧ Below w.heap.size w w')) (HOD : Hid (∀ w : World, Calls Try.prog 54 #[.agg #[.int .i64 d1, .int .i64 d2, .int .i64 d3, .int .i64 d4], .int .i64 Y5, .int .i64 Y6] w fun e w' => e = .returned (.bool true) ∧ Below w.heap.size w w')) :
    Calls Try.prog 10 #[.slice a n c, .slice a2 m2 c2, .int .i64 t, .int .i64 p, .int .i64 nz] w fun e w' => e = .returned (.bool true) ∧ Below w.heap.size w w' := by
  have hd : decide (64 < (n : Int)) = false := by simp; omega
  have hd1 : decide (nz < 0) = false := by simp; omega
  have hd2 : decide (64 < nz) = false := by simp; omega
  have hd3 : decide (p < 0) = false := by simp; omega
  have hd4 : decide ((n : Int) ≤ p) = false := by simp; omega
  have HR := Lib.hid hR
  clear hR
  have HR2 := Lib.hid hR2
  clear hR2
  go_enter Try.func10, Try.ntmps10
  go_wp2_with fail
  refine (alive_true _).mono ?_
  rintro e w1 ⟨rfl, hb⟩
  have hBw : Below w.heap.size w w1 := by (repeat' first | (with_reducible exact Below.refl _ _) | (with_reducible assumption) | (with_reducible refine belowThru ?_ (by assumption)) | (with_reducible refine belowAlloc ?_))
  have hzw1 := hBw.size
  clear hb
  go_wp2_with fail
  refine (HX.out _ (HR.out.later (by (repeat' first | (with_reducible exact Below.refl _ _) | (with_reducible assumption) | (with_reducible refine belowThru ?_ (by assumption)) | (with_reducible refine belowAlloc ?_))))).mono ?_
  rintro e w2 ⟨rfl, hb⟩
  replace hBw : Below w.heap.size w w2 := belowThru (by (repeat' first | (with_reducible exact Below.refl _ _) | (with_reducible assumption) | (with_reducible refine belowThru ?_ (by assumption)) | (with_reducible refine belowAlloc ?_))) hb
  have hzw2 := hBw.size
  clear hb
  go_wp2_with fail
  refine (HY.out _ (HR.out.later (by (repeat' first | (with_reducible exact Below.refl _ _) | (with_reducible assumption) | (with_reducible refine belowThru ?_ (by assumption)) | (with_reducible refine belowAlloc ?_))))).mono ?_
  rintro e w3 ⟨rfl, hb⟩
  have kn0 : Blk w3 (w2.heap.size) #[.int .i64 r1, .int .i64 r2, .int .i64 r3, .int .i64 r4] 30 := Blk.later hb (by (repeat' first | (with_reducible assumption) | ((with_reducible refine Blk.new ?_); first | rfl | (simp; done)) | (with_reducible refine Blk.alloc ?_)))
  have k0 := kn0; clear kn0; obtain ⟨a0, b0⟩ := k0.read; have y0 := k0.lt
  replace hBw : Below w.heap.size w w3 := belowThru (by (repeat' first | (with_reducible exact Below.refl _ _) | (with_reducible assumption) | (with_reducible refine belowThru ?_ (by assumption)) | (with_reducible refine belowAlloc ?_))) hb
  have hzw3 := hBw.size
  clear hb
  go_wp2_with fail
  refine (HW.out _ (HR.out.later (by (repeat' first | (with_reducible exact Below.refl _ _) | (with_reducible assumption) | (with_reducible refine belowThru ?_ (by assumption)) | (with_reducible refine belowAlloc ?_))))).mono ?_
  rintro e w4 ⟨rfl, hb⟩
  have kn0 : Blk w4 (w2.heap.size) #[.int .i64 r1, .int .i64 r2, .int .i64 r3, .int .i64 r4] 30 := Blk.later hb (by (repeat' first | (with_reducible assumption) | ((with_reducible refine Blk.new ?_); first | rfl | (simp; done)) | (with_reducible refine Blk.alloc ?_)))
  have kn1 : Blk w4 (w3.heap.size) #[.int .i64 f1, .int .i64 f2, .int .i64 f3, .int .i64 f4] 30 := Blk.later hb (by (repeat' first | (with_reducible assumption) | ((with_reducible refine Blk.new ?_); first | rfl | (simp; done)) | (with_reducible refine Blk.alloc ?_)))
  clear k0 a0 b0 y0
  have k0 := kn0; clear kn0; obtain ⟨a0, b0⟩ := k0.read; have y0 := k0.lt
  have k1 := kn1; clear kn1; obtain ⟨a1, b1⟩ := k1.read; have y1 := k1.lt
  replace hBw : Below w.heap.size w w4 := belowThru (by (repeat' first | (with_reducible exact Below.refl _ _) | (with_reducible assumption) | (with_reducible refine belowThru ?_ (by assumption)) | (with_reducible refine belowAlloc ?_))) hb
  have hzw4 := hBw.size
  clear hb
  go_wp2_with fail
  refine (HV.out _ (HR.out.later (by (repeat' first | (with_reducible exact Below.refl _ _) | (with_reducible assumption) | (with_reducible refine belowThru ?_ (by assumption)) | (with_reducible refine belowAlloc ?_))))).mono ?_
  rintro e w5 ⟨rfl, hb⟩
  have kn0 : Blk w5 (w2.heap.size) #[.int .i64 r1, .int .i64 r2, .int .i64 r3, .int .i64 r4] 30 := Blk.later hb (by (repeat' first | (with_reducible assumption) | ((with_reducible refine Blk.new ?_); first | rfl | (simp; done)) | (with_reducible refine Blk.alloc ?_)))
  have kn1 : Blk w5 (w3.heap.size) #[.int .i64 f1, .int .i64 f2, .int .i64 f3, .int .i64 f4] 30 := Blk.later hb (by (repeat' first | (with_reducible assumption) | ((with_reducible refine Blk.new ?_); first | rfl | (simp; done)) | (with_reducible refine Blk.alloc ?_)))
  have kn2 : Blk w5 (w4.heap.size) #[.int .i64 d1, .int .i64 d2, .int .i64 d3, .int .i64 d4] 30 := Blk.later hb (by (repeat' first | (with_reducible assumption) | ((with_reducible refine Blk.new ?_); first | rfl | (simp; done)) | (with_reducible refine Blk.alloc ?_)))
  clear k0 a0 b0 y0
  clear k1 a1 b1 y1
  have k0 := kn0; clear kn0; obtain ⟨a0, b0⟩ := k0.read; have y0 := k0.lt
  have k1 := kn1; clear kn1; obtain ⟨a1, b1⟩ := k1.read; have y1 := k1.lt
  have k2 := kn2; clear kn2; obtain ⟨a2, b2⟩ := k2.read; have y2 := k2.lt
  replace hBw : Below w.heap.size w w5 := belowThru (by (repeat' first | (with_reducible exact Below.refl _ _) | (with_reducible assumption) | (with_reducible refine belowThru ?_ (by assumption)) | (with_reducible refine belowAlloc ?_))) hb
  have hzw5 := hBw.size
  clear hb
  go_wp2_with fail
  refine (HAL.out _ (HR.out.later (by (repeat' first | (with_reducible exact Below.refl _ _) | (with_reducible assumption) | (with_reducible refine belowThru ?_ (by assumption)) | (with_reducible refine belowAlloc ?_)))) (HR2.out.later (by (repeat' first | (with_reducible exact Below.refl _ _) | (with_reducible assumption) | (with_reducible refine belowThru ?_ (by assumption)) | (with_reducible refine belowAlloc ?_))))).mono ?_
  rintro e w6 ⟨v, c', rfl, hRow, hb⟩
  have HQ := Lib.hid hRow
  clear hRow
  have kn0 : Blk w6 (w2.heap.size) #[.int .i64 r1, .int .i64 r2, .int .i64 r3, .int .i64 r4] 30 := Blk.later hb (by (repeat' first | (with_reducible assumption) | ((with_reducible refine Blk.new ?_); first | rfl | (simp; done)) | (with_reducible refine Blk.alloc ?_)))
  have kn1 : Blk w6 (w3.heap.size) #[.int .i64 f1, .int .i64 f2, .int .i64 f3, .int .i64 f4] 30 := Blk.later hb (by (repeat' first | (with_reducible assumption) | ((with_reducible refine Blk.new ?_); first | rfl | (simp; done)) | (with_reducible refine Blk.alloc ?_)))
  have kn2 : Blk w6 (w4.heap.size) #[.int .i64 d1, .int .i64 d2, .int .i64 d3, .int .i64 d4] 30 := Blk.later hb (by (repeat' first | (with_reducible assumption) | ((with_reducible refine Blk.new ?_); first | rfl | (simp; done)) | (with_reducible refine Blk.alloc ?_)))
  clear k0 a0 b0 y0
  clear k1 a1 b1 y1
  clear k2 a2 b2 y2
  have k0 := kn0; clear kn0; obtain ⟨a0, b0⟩ := k0.read; have y0 := k0.lt
  have k1 := kn1; clear kn1; obtain ⟨a1, b1⟩ := k1.read; have y1 := k1.lt
  have k2 := kn2; clear kn2; obtain ⟨a2, b2⟩ := k2.read; have y2 := k2.lt
  replace hBw : Below w.heap.size w w6 := belowThru (by (repeat' first | (with_reducible exact Below.refl _ _) | (with_reducible assumption) | (with_reducible refine belowThru ?_ (by assumption)) | (with_reducible refine belowAlloc ?_))) hb
  have hzw6 := hBw.size
  clear hb
  have hb1 : Below w6.heap.size w6 w6 := Below.refl _ _
  go_wp2_with fail
  refine (HRV.out _ _ _ (HQ.out.later (by (repeat' first | (with_reducible exact Below.refl _ _) | (with_reducible assumption) | (with_reducible refine belowThru ?_ (by assumption)) | (with_reducible refine belowAlloc ?_))))).mono ?_
  rintro e w7 ⟨v', c'', rfl, hRow, hb⟩
  have HB := Lib.hid hRow
  clear hRow
  replace hb1 : Below w6.heap.size w6 w7 := belowThru (by (repeat' first | (with_reducible exact Below.refl _ _) | (with_reducible assumption) | (with_reducible refine belowThru ?_ (by assumption)) | (with_reducible refine belowAlloc ?_))) hb
  have kn0 : Blk w7 (w2.heap.size) #[.int .i64 r1, .int .i64 r2, .int .i64 r3, .int .i64 r4] 30 := Blk.later hb (by (repeat' first | (with_reducible assumption) | ((with_reducible refine Blk.new ?_); first | rfl | (simp; done)) | (with_reducible refine Blk.alloc ?_)))
  have kn1 : Blk w7 (w3.heap.size) #[.int .i64 f1, .int .i64 f2, .int .i64 f3, .int .i64 f4] 30 := Blk.later hb (by (repeat' first | (with_reducible assumption) | ((with_reducible refine Blk.new ?_); first | rfl | (simp; done)) | (with_reducible refine Blk.alloc ?_)))
  have kn2 : Blk w7 (w4.heap.size) #[.int .i64 d1, .int .i64 d2, .int .i64 d3, .int .i64 d4] 30 := Blk.later hb (by (repeat' first | (with_reducible assumption) | ((with_reducible refine Blk.new ?_); first | rfl | (simp; done)) | (with_reducible refine Blk.alloc ?_)))
  clear k0 a0 b0 y0
  clear k1 a1 b1 y1
  clear k2 a2 b2 y2
  have k0 := kn0; clear kn0; obtain ⟨a0, b0⟩ := k0.read; have y0 := k0.lt
  have k1 := kn1; clear kn1; obtain ⟨a1, b1⟩ := k1.read; have y1 := k1.lt
  have k2 := kn2; clear kn2; obtain ⟨a2, b2⟩ := k2.read; have y2 := k2.lt
  replace hBw : Below w.heap.size w w7 := belowThru (by (repeat' first | (with_reducible exact Below.refl _ _) | (with_reducible assumption) | (with_reducible refine belowThru ?_ (by assumption)) | (with_reducible refine belowAlloc ?_))) hb
  have hzw7 := hBw.size
  clear hb
  have hb2 : Below w7.heap.size w7 w7 := Below.refl _ _
  go_wp2_with fail
  refine (HA.out _ _ _ (HQ.out.later (by (repeat' first | (with_reducible exact Below.refl _ _) | (with_reducible assumption) | (with_reducible refine belowThru ?_ (by assumption)) | (with_reducible refine belowAlloc ?_))))).mono ?_
  rintro e w8 ⟨rfl, hb⟩
  replace hb1 : Below w6.heap.size w6 w8 := belowThru (by (repeat' first | (with_reducible exact Below.refl _ _) | (with_reducible assumption) | (with_reducible refine belowThru ?_ (by assumption)) | (with_reducible refine belowAlloc ?_))) hb
  replace hb2 : Below w7.heap.size w7 w8 := belowThru (by (repeat' first | (with_reducible exact Below.refl _ _) | (with_reducible assumption) | (with_reducible refine belowThru ?_ (by assumption)) | (with_reducible refine belowAlloc ?_))) hb
  have kn0 : Blk w8 (w2.heap.size) #[.int .i64 r1, .int .i64 r2, .int .i64 r3, .int .i64 r4] 30 := Blk.later hb (by (repeat' first | (with_reducible assumption) | ((with_reducible refine Blk.new ?_); first | rfl | (simp; done)) | (with_reducible refine Blk.alloc ?_)))
  have kn1 : Blk w8 (w3.heap.size) #[.int .i64 f1, .int .i64 f2, .int .i64 f3, .int .i64 f4] 30 := Blk.later hb (by (repeat' first | (with_reducible assumption) | ((with_reducible refine Blk.new ?_); first | rfl | (simp; done)) | (with_reducible refine Blk.alloc ?_)))
  have kn2 : Blk w8 (w4.heap.size) #[.int .i64 d1, .int .i64 d2, .int .i64 d3, .int .i64 d4] 30 := Blk.later hb (by (repeat' first | (with_reducible assumption) | ((with_reducible refine Blk.new ?_); first | rfl | (simp; done)) | (with_reducible refine Blk.alloc ?_)))
  clear k0 a0 b0 y0
  clear k1 a1 b1 y1
  clear k2 a2 b2 y2
  have k0 := kn0; clear kn0; obtain ⟨a0, b0⟩ := k0.read; have y0 := k0.lt
  have k1 := kn1; clear kn1; obtain ⟨a1, b1⟩ := k1.read; have y1 := k1.lt
  have k2 := kn2; clear kn2; obtain ⟨a2, b2⟩ := k2.read; have y2 := k2.lt
  replace hBw : Below w.heap.size w w8 := belowThru (by (repeat' first | (with_reducible exact Below.refl _ _) | (with_reducible assumption) | (with_reducible refine belowThru ?_ (by assumption)) | (with_reducible refine belowAlloc ?_))) hb
  have hzw8 := hBw.size
  clear hb
  go_wp2_with fail
  refine (HC.out _ _ _ (HB.out.later (by (repeat' first | (with_reducible exact Below.refl _ _) | (with_reducible assumption) | (with_reducible refine belowThru ?_ (by assumption)) | (with_reducible refine belowAlloc ?_))))).mono ?_
  rintro e w9 ⟨rfl, hb⟩
  replace hb1 : Below w6.heap.size w6 w9 := belowThru (by (repeat' first | (with_reducible exact Below.refl _ _) | (with_reducible assumption) | (with_reducible refine belowThru ?_ (by assumption)) | (with_reducible refine belowAlloc ?_))) hb
  replace hb2 : Below w7.heap.size w7 w9 := belowThru (by (repeat' first | (with_reducible exact Below.refl _ _) | (with_reducible assumption) | (with_reducible refine belowThru ?_ (by assumption)) | (with_reducible refine belowAlloc ?_))) hb
  have kn0 : Blk w9 (w2.heap.size) #[.int .i64 r1, .int .i64 r2, .int .i64 r3, .int .i64 r4] 30 := Blk.later hb (by (repeat' first | (with_reducible assumption) | ((with_reducible refine Blk.new ?_); first | rfl | (simp; done)) | (with_reducible refine Blk.alloc ?_)))
  have kn1 : Blk w9 (w3.heap.size) #[.int .i64 f1, .int .i64 f2, .int .i64 f3, .int .i64 f4] 30 := Blk.later hb (by (repeat' first | (with_reducible assumption) | ((with_reducible refine Blk.new ?_); first | rfl | (simp; done)) | (with_reducible refine Blk.alloc ?_)))
  have kn2 : Blk w9 (w4.heap.size) #[.int .i64 d1, .int .i64 d2, .int .i64 d3, .int .i64 d4] 30 := Blk.later hb (by (repeat' first | (with_reducible assumption) | ((with_reducible refine Blk.new ?_); first | rfl | (simp; done)) | (with_reducible refine Blk.alloc ?_)))
  clear k0 a0 b0 y0
  clear k1 a1 b1 y1
  clear k2 a2 b2 y2
  have k0 := kn0; clear kn0; obtain ⟨a0, b0⟩ := k0.read; have y0 := k0.lt
  have k1 := kn1; clear kn1; obtain ⟨a1, b1⟩ := k1.read; have y1 := k1.lt
  have k2 := kn2; clear kn2; obtain ⟨a2, b2⟩ := k2.read; have y2 := k2.lt
  replace hBw : Below w.heap.size w w9 := belowThru (by (repeat' first | (with_reducible exact Below.refl _ _) | (with_reducible assumption) | (with_reducible refine belowThru ?_ (by assumption)) | (with_reducible refine belowAlloc ?_))) hb
  have hzw9 := hBw.size
  clear hb
  go_wp2_with fail
  refine (HOC.out _).mono ?_
  rintro e w10 ⟨rfl, hb⟩
  replace hb1 : Below w6.heap.size w6 w10 := belowThru (by (repeat' first | (with_reducible exact Below.refl _ _) | (with_reducible assumption) | (with_reducible refine belowThru ?_ (by assumption)) | (with_reducible refine belowAlloc ?_))) hb
  replace hb2 : Below w7.heap.size w7 w10 := belowThru (by (repeat' first | (with_reducible exact Below.refl _ _) | (with_reducible assumption) | (with_reducible refine belowThru ?_ (by assumption)) | (with_reducible refine belowAlloc ?_))) hb
  have kn0 : Blk w10 (w2.heap.size) #[.int .i64 r1, .int .i64 r2, .int .i64 r3, .int .i64 r4] 30 := Blk.later hb (by (repeat' first | (with_reducible assumption) | ((with_reducible refine Blk.new ?_); first | rfl | (simp; done)) | (with_reducible refine Blk.alloc ?_)))
  have kn1 : Blk w10 (w3.heap.size) #[.int .i64 f1, .int .i64 f2, .int .i64 f3, .int .i64 f4] 30 := Blk.later hb (by (repeat' first | (with_reducible assumption) | ((with_reducible refine Blk.new ?_); first | rfl | (simp; done)) | (with_reducible refine Blk.alloc ?_)))
  have kn2 : Blk w10 (w4.heap.size) #[.int .i64 d1, .int .i64 d2, .int .i64 d3, .int .i64 d4] 30 := Blk.later hb (by (repeat' first | (with_reducible assumption) | ((with_reducible refine Blk.new ?_); first | rfl | (simp; done)) | (with_reducible refine Blk.alloc ?_)))
  clear k0 a0 b0 y0
  clear k1 a1 b1 y1
  clear k2 a2 b2 y2
  have k0 := kn0; clear kn0; obtain ⟨a0, b0⟩ := k0.read; have y0 := k0.lt
  have k1 := kn1; clear kn1; obtain ⟨a1, b1⟩ := k1.read; have y1 := k1.lt
  have k2 := kn2; clear kn2; obtain ⟨a2, b2⟩ := k2.read; have y2 := k2.lt
  replace hBw : Below w.heap.size w w10 := belowThru (by (repeat' first | (with_reducible exact Below.refl _ _) | (with_reducible assumption) | (with_reducible refine belowThru ?_ (by assumption)) | (with_reducible refine belowAlloc ?_))) hb
  have hzw10 := hBw.size
  clear hb
  go_wp2_with fail
  refine (HD.out _ _ _ (HQ.out.later (by (repeat' first | (with_reducible exact Below.refl _ _) | (with_reducible assumption) | (with_reducible refine belowThru ?_ (by assumption)) | (with_reducible refine belowAlloc ?_))))).mono ?_
  rintro e w11 ⟨rfl, hb⟩
  replace hb1 : Below w6.heap.size w6 w11 := belowThru (by (repeat' first | (with_reducible exact Below.refl _ _) | (with_reducible assumption) | (with_reducible refine belowThru ?_ (by assumption)) | (with_reducible refine belowAlloc ?_))) hb
  replace hb2 : Below w7.heap.size w7 w11 := belowThru (by (repeat' first | (with_reducible exact Below.refl _ _) | (with_reducible assumption) | (with_reducible refine belowThru ?_ (by assumption)) | (with_reducible refine belowAlloc ?_))) hb
  have kn0 : Blk w11 (w2.heap.size) #[.int .i64 r1, .int .i64 r2, .int .i64 r3, .int .i64 r4] 30 := Blk.later hb (by (repeat' first | (with_reducible assumption) | ((with_reducible refine Blk.new ?_); first | rfl | (simp; done)) | (with_reducible refine Blk.alloc ?_)))
  have kn1 : Blk w11 (w3.heap.size) #[.int .i64 f1, .int .i64 f2, .int .i64 f3, .int .i64 f4] 30 := Blk.later hb (by (repeat' first | (with_reducible assumption) | ((with_reducible refine Blk.new ?_); first | rfl | (simp; done)) | (with_reducible refine Blk.alloc ?_)))
  have kn2 : Blk w11 (w4.heap.size) #[.int .i64 d1, .int .i64 d2, .int .i64 d3, .int .i64 d4] 30 := Blk.later hb (by (repeat' first | (with_reducible assumption) | ((with_reducible refine Blk.new ?_); first | rfl | (simp; done)) | (with_reducible refine Blk.alloc ?_)))
  clear k0 a0 b0 y0
  clear k1 a1 b1 y1
  clear k2 a2 b2 y2
  have k0 := kn0; clear kn0; obtain ⟨a0, b0⟩ := k0.read; have y0 := k0.lt
  have k1 := kn1; clear kn1; obtain ⟨a1, b1⟩ := k1.read; have y1 := k1.lt
  have k2 := kn2; clear kn2; obtain ⟨a2, b2⟩ := k2.read; have y2 := k2.lt
  replace hBw : Below w.heap.size w w11 := belowThru (by (repeat' first | (with_reducible exact Below.refl _ _) | (with_reducible assumption) | (with_reducible refine belowThru ?_ (by assumption)) | (with_reducible refine belowAlloc ?_))) hb
  have hzw11 := hBw.size
  clear hb
  go_wp2_with fail
  refine (HF.out _ _ _ (HB.out.later (by (repeat' first | (with_reducible exact Below.refl _ _) | (with_reducible assumption) | (with_reducible refine belowThru ?_ (by assumption)) | (with_reducible refine belowAlloc ?_))))).mono ?_
  rintro e w12 ⟨rfl, hb⟩
  replace hb1 : Below w6.heap.size w6 w12 := belowThru (by (repeat' first | (with_reducible exact Below.refl _ _) | (with_reducible assumption) | (with_reducible refine belowThru ?_ (by assumption)) | (with_reducible refine belowAlloc ?_))) hb
  replace hb2 : Below w7.heap.size w7 w12 := belowThru (by (repeat' first | (with_reducible exact Below.refl _ _) | (with_reducible assumption) | (with_reducible refine belowThru ?_ (by assumption)) | (with_reducible refine belowAlloc ?_))) hb
  have kn0 : Blk w12 (w2.heap.size) #[.int .i64 r1, .int .i64 r2, .int .i64 r3, .int .i64 r4] 30 := Blk.later hb (by (repeat' first | (with_reducible assumption) | ((with_reducible refine Blk.new ?_); first | rfl | (simp; done)) | (with_reducible refine Blk.alloc ?_)))
  have kn1 : Blk w12 (w3.heap.size) #[.int .i64 f1, .int .i64 f2, .int .i64 f3, .int .i64 f4] 30 := Blk.later hb (by (repeat' first | (with_reducible assumption) | ((with_reducible refine Blk.new ?_); first | rfl | (simp; done)) | (with_reducible refine Blk.alloc ?_)))
  have kn2 : Blk w12 (w4.heap.size) #[.int .i64 d1, .int .i64 d2, .int .i64 d3, .int .i64 d4] 30 := Blk.later hb (by (repeat' first | (with_reducible assumption) | ((with_reducible refine Blk.new ?_); first | rfl | (simp; done)) | (with_reducible refine Blk.alloc ?_)))
  clear k0 a0 b0 y0
  clear k1 a1 b1 y1
  clear k2 a2 b2 y2
  have k0 := kn0; clear kn0; obtain ⟨a0, b0⟩ := k0.read; have y0 := k0.lt
  have k1 := kn1; clear kn1; obtain ⟨a1, b1⟩ := k1.read; have y1 := k1.lt
  have k2 := kn2; clear kn2; obtain ⟨a2, b2⟩ := k2.read; have y2 := k2.lt
  replace hBw : Below w.heap.size w w12 := belowThru (by (repeat' first | (with_reducible exact Below.refl _ _) | (with_reducible assumption) | (with_reducible refine belowThru ?_ (by assumption)) | (with_reducible refine belowAlloc ?_))) hb
  have hzw12 := hBw.size
  clear hb
  go_wp2_with fail
  refine (HOD.out _).mono ?_
  rintro e w13 ⟨rfl, hb⟩
  replace hb1 : Below w6.heap.size w6 w13 := belowThru (by (repeat' first | (with_reducible exact Below.refl _ _) | (with_reducible assumption) | (with_reducible refine belowThru ?_ (by assumption)) | (with_reducible refine belowAlloc ?_))) hb
  replace hb2 : Below w7.heap.size w7 w13 := belowThru (by (repeat' first | (with_reducible exact Below.refl _ _) | (with_reducible assumption) | (with_reducible refine belowThru ?_ (by assumption)) | (with_reducible refine belowAlloc ?_))) hb
  have kn0 : Blk w13 (w2.heap.size) #[.int .i64 r1, .int .i64 r2, .int .i64 r3, .int .i64 r4] 30 := Blk.later hb (by (repeat' first | (with_reducible assumption) | ((with_reducible refine Blk.new ?_); first | rfl | (simp; done)) | (with_reducible refine Blk.alloc ?_)))
  have kn1 : Blk w13 (w3.heap.size) #[.int .i64 f1, .int .i64 f2, .int .i64 f3, .int .i64 f4] 30 := Blk.later hb (by (repeat' first | (with_reducible assumption) | ((with_reducible refine Blk.new ?_); first | rfl | (simp; done)) | (with_reducible refine Blk.alloc ?_)))
  have kn2 : Blk w13 (w4.heap.size) #[.int .i64 d1, .int .i64 d2, .int .i64 d3, .int .i64 d4] 30 := Blk.later hb (by (repeat' first | (with_reducible assumption) | ((with_reducible refine Blk.new ?_); first | rfl | (simp; done)) | (with_reducible refine Blk.alloc ?_)))
  clear k0 a0 b0 y0
  clear k1 a1 b1 y1
  clear k2 a2 b2 y2
  have k0 := kn0; clear kn0; obtain ⟨a0, b0⟩ := k0.read; have y0 := k0.lt
  have k1 := kn1; clear kn1; obtain ⟨a1, b1⟩ := k1.read; have y1 := k1.lt
  have k2 := kn2; clear kn2; obtain ⟨a2, b2⟩ := k2.read; have y2 := k2.lt
  replace hBw : Below w.heap.size w w13 := belowThru (by (repeat' first | (with_reducible exact Below.refl _ _) | (with_reducible assumption) | (with_reducible refine belowThru ?_ (by assumption)) | (with_reducible refine belowAlloc ?_))) hb
  have hzw13 := hBw.size
  clear hb
  go_wp2_with fail
  go_ret
  exact ⟨rfl, by (repeat' first | (with_reducible exact Below.refl _ _) | (with_reducible assumption) | (with_reducible refine belowThru ?_ (by assumption)) | (with_reducible refine belowAlloc ?_))⟩
set_option maxRecDepth 100000 in
set_option maxHeartbeats 16000000 in
theorem holds_101 (a : Option Addr) (n c : Nat) (zs : List Int) (a2 : Option Addr) (m2 c2 : Nat) (ms : List Int) (t p nz : Int) (w : World) (hR : Row w a n (iv zs)) (hR2 : Row w a2 m2 (hv ms)) (hl : n ≤ 64) (h0 : 0 ≤ nz) (h1 : nz ≤ 64) (hp0 : 0 ≤ p) (hp1 : p < (n : Int)) (L K : List Int) (B1 B2 B3 B4 : Bool) (r1 r2 r3 r4 f1 f2 f3 f4 d1 d2 d3 d4 E G H M q T A1 A2 C1 C2 D1 D2 F1 F2 X1 X2 Y1 Y2 Y3 Y4 Y5 Y6 : Int) (hM : IntKind.i64.wrap ((n : Int) - 1) = M) (hq : IntKind.i64.wrap (M - p) = q) (hT : IntKind.i64.wrap (4 * t) = T) (hX1 : IntKind.i64.wrap (M * C2) = X1) (hX2 : IntKind.i64.wrap (X1 - C1) = X2) (hE : (E == 0) = false) (hH : (H != 0) = true)
    (HX : Hid (∀ w : World, Row w a n (iv zs) → Calls Try.prog 21 #[.slice a n c, .int .i64 t, .int .i64 p, .int .i64 nz] w fun e w' => e = .returned (.tuple #[.agg #[.int .i64 r1, .int .i64 r2, .int .i64 r3, .int .i64 r4], .int .i64 E]) ∧ Below w.heap.size w w')) (HY : Hid (∀ w : World, Row w a n (iv zs) → Calls Try.prog 20 #[.slice a n c, .int .i64 t, .int .i64 p, .int .i64 nz] w fun e w' => e = .returned (.tuple #[.agg #[.int .i64 f1, .int .i64 f2, .int .i64 f3, .int .i64 f4], .int .i64 0]) ∧ Below w.heap.size w w')) (HW : Hid (∀ w : World, Row w a n (iv zs) → Calls Try.prog 39 #[.slice a n c, .int .i64 t, .int .i64 nz] w fun e w' => e = .returned (.tuple #[.agg #[.int .i64 d1, .int .i64 d2, .int .i64 d3, .int .i64 d4], .int .i64 H]) ∧ Below w.heap.size w w')) (HV : Hid (∀ w : World, Row w a n (iv zs) → Calls Try.prog 51 #[.slice a n c] w fun e w' => e = .returned (.bool true) ∧ Below w.heap.size w w')) (HAL : Hid (∀ w : World, Row w a n (iv zs) → Row w a2 m2 (hv ms) → Calls Try.prog 52 #[.slice a n c, .slice a2 m2 c2, .int .i64 nz] w fun e w' => ∃ v c', e = .returned (.slice v n c') ∧ Row w' v n (iv L) ∧ Below w.heap.size w w')) (HRV : Hid (∀ (v : Option Addr) (c : Nat) (w : World), Row w v n (iv L) → Calls Try.prog 49 #[.slice v n c] w fun e w' => ∃ v' c', e = .returned (.slice v' n c') ∧ Row w' v' n (iv K) ∧ Below w.heap.size w w')) (HA : Hid (∀ (v : Option Addr) (c : Nat) (w : World), Row w v n (iv L) → Calls Try.prog 53 #[.slice v n c, .int .i64 T, .int .i64 p] w fun e w' => e = .returned (.tuple #[.int .i64 A1, .int .i64 A2, .bool B1]) ∧ Below w.heap.size w w')) (HC : Hid (∀ (v : Option Addr) (c : Nat) (w : World), Row w v n (iv K) → Calls Try.prog 53 #[.slice v n c, .int .i64 T, .int .i64 q] w fun e w' => e = .returned (.tuple #[.int .i64 C1, .int .i64 C2, .bool true]) ∧ Below w.heap.size w w')) (HD : Hid (∀ (v : Option Addr) (c : Nat) (w : World), Row w v n (iv L) → Calls Try.prog 53 #[.slice v n c, .int .i64 T, .int .i64 0] w fun e w' => e = .returned (.tuple #[.int .i64 D1, .int .i64 D2, .bool B3]) ∧ Below w.heap.size w w')) (HF : Hid (∀ (v : Option Addr) (c : Nat) (w : World), Row w v n (iv K) → Calls Try.prog 53 #[.slice v n c, .int .i64 T, .int .i64 0] w fun e w' => e = .returned (.tuple #[.int .i64 F1, .int .i64 F2, .bool B4]) ∧ Below w.heap.size w w')) (HOC : Hid (∀ w : World, Calls Try.prog 54 #[.agg #[.int .i64 f1, .int .i64 f2, .int .i64 f3, .int .i64 f4], .int .i64 X2, .int .i64 C2] w fun e w' => e = .returned (.bool true) ∧ Below w.heap.size w w')) :
    Calls Try.prog 10 #[.slice a n c, .slice a2 m2 c2, .int .i64 t, .int .i64 p, .int .i64 nz] w fun e w' => e = .returned (.bool true) ∧ Below w.heap.size w w' := by
  have hd : decide (64 < (n : Int)) = false := by simp; omega
  have hd1 : decide (nz < 0) = false := by simp; omega
  have hd2 : decide (64 < nz) = false := by simp; omega
  have hd3 : decide (p < 0) = false := by simp; omega
  have hd4 : decide ((n : Int) ≤ p) = false := by simp; omega
  have HR := Lib.hid hR
  clear hR
  have HR2 := Lib.hid hR2
  clear hR2
  go_enter Try.func10, Try.ntmps10
  go_wp2_with fail
  refine (alive_true _).mono ?_
  rintro e w1 ⟨rfl, hb⟩
  have hBw : Below w.heap.size w w1 := by (repeat' first | (with_reducible exact Below.refl _ _) | (with_reducible assumption) | (with_reducible refine belowThru ?_ (by assumption)) | (with_reducible refine belowAlloc ?_))
  have hzw1 := hBw.size
  clear hb
  go_wp2_with fail
  refine (HX.out _ (HR.out.later (by (repeat' first | (with_reducible exact Below.refl _ _) | (with_reducible assumption) | (with_reducible refine belowThru ?_ (by assumption)) | (with_reducible refine belowAlloc ?_))))).mono ?_
  rintro e w2 ⟨rfl, hb⟩
  replace hBw : Below w.heap.size w w2 := belowThru (by (repeat' first | (with_reducible exact Below.refl _ _) | (with_reducible assumption) | (with_reducible refine belowThru ?_ (by assumption)) | (with_reducible refine belowAlloc ?_))) hb
  have hzw2 := hBw.size
  clear hb
  go_wp2_with fail
  refine (HY.out _ (HR.out.later (by (repeat' first | (with_reducible exact Below.refl _ _) | (with_reducible assumption) | (with_reducible refine belowThru ?_ (by assumption)) | (with_reducible refine belowAlloc ?_))))).mono ?_
  rintro e w3 ⟨rfl, hb⟩
  have kn0 : Blk w3 (w2.heap.size) #[.int .i64 r1, .int .i64 r2, .int .i64 r3, .int .i64 r4] 30 := Blk.later hb (by (repeat' first | (with_reducible assumption) | ((with_reducible refine Blk.new ?_); first | rfl | (simp; done)) | (with_reducible refine Blk.alloc ?_)))
  have k0 := kn0; clear kn0; obtain ⟨a0, b0⟩ := k0.read; have y0 := k0.lt
  replace hBw : Below w.heap.size w w3 := belowThru (by (repeat' first | (with_reducible exact Below.refl _ _) | (with_reducible assumption) | (with_reducible refine belowThru ?_ (by assumption)) | (with_reducible refine belowAlloc ?_))) hb
  have hzw3 := hBw.size
  clear hb
  go_wp2_with fail
  refine (HW.out _ (HR.out.later (by (repeat' first | (with_reducible exact Below.refl _ _) | (with_reducible assumption) | (with_reducible refine belowThru ?_ (by assumption)) | (with_reducible refine belowAlloc ?_))))).mono ?_
  rintro e w4 ⟨rfl, hb⟩
  have kn0 : Blk w4 (w2.heap.size) #[.int .i64 r1, .int .i64 r2, .int .i64 r3, .int .i64 r4] 30 := Blk.later hb (by (repeat' first | (with_reducible assumption) | ((with_reducible refine Blk.new ?_); first | rfl | (simp; done)) | (with_reducible refine Blk.alloc ?_)))
  have kn1 : Blk w4 (w3.heap.size) #[.int .i64 f1, .int .i64 f2, .int .i64 f3, .int .i64 f4] 30 := Blk.later hb (by (repeat' first | (with_reducible assumption) | ((with_reducible refine Blk.new ?_); first | rfl | (simp; done)) | (with_reducible refine Blk.alloc ?_)))
  clear k0 a0 b0 y0
  have k0 := kn0; clear kn0; obtain ⟨a0, b0⟩ := k0.read; have y0 := k0.lt
  have k1 := kn1; clear kn1; obtain ⟨a1, b1⟩ := k1.read; have y1 := k1.lt
  replace hBw : Below w.heap.size w w4 := belowThru (by (repeat' first | (with_reducible exact Below.refl _ _) | (with_reducible assumption) | (with_reducible refine belowThru ?_ (by assumption)) | (with_reducible refine belowAlloc ?_))) hb
  have hzw4 := hBw.size
  clear hb
  go_wp2_with fail
  refine (HV.out _ (HR.out.later (by (repeat' first | (with_reducible exact Below.refl _ _) | (with_reducible assumption) | (with_reducible refine belowThru ?_ (by assumption)) | (with_reducible refine belowAlloc ?_))))).mono ?_
  rintro e w5 ⟨rfl, hb⟩
  have kn0 : Blk w5 (w2.heap.size) #[.int .i64 r1, .int .i64 r2, .int .i64 r3, .int .i64 r4] 30 := Blk.later hb (by (repeat' first | (with_reducible assumption) | ((with_reducible refine Blk.new ?_); first | rfl | (simp; done)) | (with_reducible refine Blk.alloc ?_)))
  have kn1 : Blk w5 (w3.heap.size) #[.int .i64 f1, .int .i64 f2, .int .i64 f3, .int .i64 f4] 30 := Blk.later hb (by (repeat' first | (with_reducible assumption) | ((with_reducible refine Blk.new ?_); first | rfl | (simp; done)) | (with_reducible refine Blk.alloc ?_)))
  have kn2 : Blk w5 (w4.heap.size) #[.int .i64 d1, .int .i64 d2, .int .i64 d3, .int .i64 d4] 30 := Blk.later hb (by (repeat' first | (with_reducible assumption) | ((with_reducible refine Blk.new ?_); first | rfl | (simp; done)) | (with_reducible refine Blk.alloc ?_)))
  clear k0 a0 b0 y0
  clear k1 a1 b1 y1
  have k0 := kn0; clear kn0; obtain ⟨a0, b0⟩ := k0.read; have y0 := k0.lt
  have k1 := kn1; clear kn1; obtain ⟨a1, b1⟩ := k1.read; have y1 := k1.lt
  have k2 := kn2; clear kn2; obtain ⟨a2, b2⟩ := k2.read; have y2 := k2.lt
  replace hBw : Below w.heap.size w w5 := belowThru (by (repeat' first | (with_reducible exact Below.refl _ _) | (with_reducible assumption) | (with_reducible refine belowThru ?_ (by assumption)) | (with_reducible refine belowAlloc ?_))) hb
  have hzw5 := hBw.size
  clear hb
  go_wp2_with fail
  refine (HAL.out _ (HR.out.later (by (repeat' first | (with_reducible exact Below.refl _ _) | (with_reducible assumption) | (with_reducible refine belowThru ?_ (by assumption)) | (with_reducible refine belowAlloc ?_)))) (HR2.out.later (by (repeat' first | (with_reducible exact Below.refl _ _) | (with_reducible assumption) | (with_reducible refine belowThru ?_ (by assumption)) | (with_reducible refine belowAlloc ?_))))).mono ?_
  rintro e w6 ⟨v, c', rfl, hRow, hb⟩
  have HQ := Lib.hid hRow
  clear hRow
  have kn0 : Blk w6 (w2.heap.size) #[.int .i64 r1, .int .i64 r2, .int .i64 r3, .int .i64 r4] 30 := Blk.later hb (by (repeat' first | (with_reducible assumption) | ((with_reducible refine Blk.new ?_); first | rfl | (simp; done)) | (with_reducible refine Blk.alloc ?_)))
  have kn1 : Blk w6 (w3.heap.size) #[.int .i64 f1, .int .i64 f2, .int .i64 f3, .int .i64 f4] 30 := Blk.later hb (by (repeat' first | (with_reducible assumption) | ((with_reducible refine Blk.new ?_); first | rfl | (simp; done)) | (with_reducible refine Blk.alloc ?_)))
  have kn2 : Blk w6 (w4.heap.size) #[.int .i64 d1, .int .i64 d2, .int .i64 d3, .int .i64 d4] 30 := Blk.later hb (by (repeat' first | (with_reducible assumption) | ((with_reducible refine Blk.new ?_); first | rfl | (simp; done)) | (with_reducible refine Blk.alloc ?_)))
  clear k0 a0 b0 y0
  clear k1 a1 b1 y1
  clear k2 a2 b2 y2
  have k0 := kn0; clear kn0; obtain ⟨a0, b0⟩ := k0.read; have y0 := k0.lt
  have k1 := kn1; clear kn1; obtain ⟨a1, b1⟩ := k1.read; have y1 := k1.lt
  have k2 := kn2; clear kn2; obtain ⟨a2, b2⟩ := k2.read; have y2 := k2.lt
  replace hBw : Below w.heap.size w w6 := belowThru (by (repeat' first | (with_reducible exact Below.refl _ _) | (with_reducible assumption) | (with_reducible refine belowThru ?_ (by assumption)) | (with_reducible refine belowAlloc ?_))) hb
  have hzw6 := hBw.size
  clear hb
  have hb1 : Below w6.heap.size w6 w6 := Below.refl _ _
  go_wp2_with fail
  refine (HRV.out _ _ _ (HQ.out.later (by (repeat' first | (with_reducible exact Below.refl _ _) | (with_reducible assumption) | (with_reducible refine belowThru ?_ (by assumption)) | (with_reducible refine belowAlloc ?_))))).mono ?_
  rintro e w7 ⟨v', c'', rfl, hRow, hb⟩
  have HB := Lib.hid hRow
  clear hRow
  replace hb1 : Below w6.heap.size w6 w7 := belowThru (by (repeat' first | (with_reducible exact Below.refl _ _) | (with_reducible assumption) | (with_reducible refine belowThru ?_ (by assumption)) | (with_reducible refine belowAlloc ?_))) hb
  have kn0 : Blk w7 (w2.heap.size) #[.int .i64 r1, .int .i64 r2, .int .i64 r3, .int .i64 r4] 30 := Blk.later hb (by (repeat' first | (with_reducible assumption) | ((with_reducible refine Blk.new ?_); first | rfl | (simp; done)) | (with_reducible refine Blk.alloc ?_)))
  have kn1 : Blk w7 (w3.heap.size) #[.int .i64 f1, .int .i64 f2, .int .i64 f3, .int .i64 f4] 30 := Blk.later hb (by (repeat' first | (with_reducible assumption) | ((with_reducible refine Blk.new ?_); first | rfl | (simp; done)) | (with_reducible refine Blk.alloc ?_)))
  have kn2 : Blk w7 (w4.heap.size) #[.int .i64 d1, .int .i64 d2, .int .i64 d3, .int .i64 d4] 30 := Blk.later hb (by (repeat' first | (with_reducible assumption) | ((with_reducible refine Blk.new ?_); first | rfl | (simp; done)) | (with_reducible refine Blk.alloc ?_)))
  clear k0 a0 b0 y0
  clear k1 a1 b1 y1
  clear k2 a2 b2 y2
  have k0 := kn0; clear kn0; obtain ⟨a0, b0⟩ := k0.read; have y0 := k0.lt
  have k1 := kn1; clear kn1; obtain ⟨a1, b1⟩ := k1.read; have y1 := k1.lt
  have k2 := kn2; clear kn2; obtain ⟨a2, b2⟩ := k2.read; have y2 := k2.lt
  replace hBw : Below w.heap.size w w7 := belowThru (by (repeat' first | (with_reducible exact Below.refl _ _) | (with_reducible assumption) | (with_reducible refine belowThru ?_ (by assumption)) | (with_reducible refine belowAlloc ?_))) hb
  have hzw7 := hBw.size
  clear hb
  have hb2 : Below w7.heap.size w7 w7 := Below.refl _ _
  go_wp2_with fail
  refine (HA.out _ _ _ (HQ.out.later (by (repeat' first | (with_reducible exact Below.refl _ _) | (with_reducible assumption) | (with_reducible refine belowThru ?_ (by assumption)) | (with_reducible refine belowAlloc ?_))))).mono ?_
  rintro e w8 ⟨rfl, hb⟩
  replace hb1 : Below w6.heap.size w6 w8 := belowThru (by (repeat' first | (with_reducible exact Below.refl _ _) | (with_reducible assumption) | (with_reducible refine belowThru ?_ (by assumption)) | (with_reducible refine belowAlloc ?_))) hb
  replace hb2 : Below w7.heap.size w7 w8 := belowThru (by (repeat' first | (with_reducible exact Below.refl _ _) | (with_reducible assumption) | (with_reducible refine belowThru ?_ (by assumption)) | (with_reducible refine belowAlloc ?_))) hb
  have kn0 : Blk w8 (w2.heap.size) #[.int .i64 r1, .int .i64 r2, .int .i64 r3, .int .i64 r4] 30 := Blk.later hb (by (repeat' first | (with_reducible assumption) | ((with_reducible refine Blk.new ?_); first | rfl | (simp; done)) | (with_reducible refine Blk.alloc ?_)))
  have kn1 : Blk w8 (w3.heap.size) #[.int .i64 f1, .int .i64 f2, .int .i64 f3, .int .i64 f4] 30 := Blk.later hb (by (repeat' first | (with_reducible assumption) | ((with_reducible refine Blk.new ?_); first | rfl | (simp; done)) | (with_reducible refine Blk.alloc ?_)))
  have kn2 : Blk w8 (w4.heap.size) #[.int .i64 d1, .int .i64 d2, .int .i64 d3, .int .i64 d4] 30 := Blk.later hb (by (repeat' first | (with_reducible assumption) | ((with_reducible refine Blk.new ?_); first | rfl | (simp; done)) | (with_reducible refine Blk.alloc ?_)))
  clear k0 a0 b0 y0
  clear k1 a1 b1 y1
  clear k2 a2 b2 y2
  have k0 := kn0; clear kn0; obtain ⟨a0, b0⟩ := k0.read; have y0 := k0.lt
  have k1 := kn1; clear kn1; obtain ⟨a1, b1⟩ := k1.read; have y1 := k1.lt
  have k2 := kn2; clear kn2; obtain ⟨a2, b2⟩ := k2.read; have y2 := k2.lt
  replace hBw : Below w.heap.size w w8 := belowThru (by (repeat' first | (with_reducible exact Below.refl _ _) | (with_reducible assumption) | (with_reducible refine belowThru ?_ (by assumption)) | (with_reducible refine belowAlloc ?_))) hb
  have hzw8 := hBw.size
  clear hb
  go_wp2_with fail
  refine (HC.out _ _ _ (HB.out.later (by (repeat' first | (with_reducible exact Below.refl _ _) | (with_reducible assumption) | (with_reducible refine belowThru ?_ (by assumption)) | (with_reducible refine belowAlloc ?_))))).mono ?_
  rintro e w9 ⟨rfl, hb⟩
  replace hb1 : Below w6.heap.size w6 w9 := belowThru (by (repeat' first | (with_reducible exact Below.refl _ _) | (with_reducible assumption) | (with_reducible refine belowThru ?_ (by assumption)) | (with_reducible refine belowAlloc ?_))) hb
  replace hb2 : Below w7.heap.size w7 w9 := belowThru (by (repeat' first | (with_reducible exact Below.refl _ _) | (with_reducible assumption) | (with_reducible refine belowThru ?_ (by assumption)) | (with_reducible refine belowAlloc ?_))) hb
  have kn0 : Blk w9 (w2.heap.size) #[.int .i64 r1, .int .i64 r2, .int .i64 r3, .int .i64 r4] 30 := Blk.later hb (by (repeat' first | (with_reducible assumption) | ((with_reducible refine Blk.new ?_); first | rfl | (simp; done)) | (with_reducible refine Blk.alloc ?_)))
  have kn1 : Blk w9 (w3.heap.size) #[.int .i64 f1, .int .i64 f2, .int .i64 f3, .int .i64 f4] 30 := Blk.later hb (by (repeat' first | (with_reducible assumption) | ((with_reducible refine Blk.new ?_); first | rfl | (simp; done)) | (with_reducible refine Blk.alloc ?_)))
  have kn2 : Blk w9 (w4.heap.size) #[.int .i64 d1, .int .i64 d2, .int .i64 d3, .int .i64 d4] 30 := Blk.later hb (by (repeat' first | (with_reducible assumption) | ((with_reducible refine Blk.new ?_); first | rfl | (simp; done)) | (with_reducible refine Blk.alloc ?_)))
  clear k0 a0 b0 y0
  clear k1 a1 b1 y1
  clear k2 a2 b2 y2
  have k0 := kn0; clear kn0; obtain ⟨a0, b0⟩ := k0.read; have y0 := k0.lt
  have k1 := kn1; clear kn1; obtain ⟨a1, b1⟩ := k1.read; have y1 := k1.lt
  have k2 := kn2; clear kn2; obtain ⟨a2, b2⟩ := k2.read; have y2 := k2.lt
  replace hBw : Below w.heap.size w w9 := belowThru (by (repeat' first | (with_reducible exact Below.refl _ _) | (with_reducible assumption) | (with_reducible refine belowThru ?_ (by assumption)) | (with_reducible refine belowAlloc ?_))) hb
  have hzw9 := hBw.size
  clear hb
  go_wp2_with fail
  refine (HOC.out _).mono ?_
  rintro e w10 ⟨rfl, hb⟩
  replace hb1 : Below w6.heap.size w6 w10 := belowThru (by (repeat' first | (with_reducible exact Below.refl _ _) | (with_reducible assumption) | (with_reducible refine belowThru ?_ (by assumption)) | (with_reducible refine belowAlloc ?_))) hb
  replace hb2 : Below w7.heap.size w7 w10 := belowThru (by (repeat' first | (with_reducible exact Below.refl _ _) | (with_reducible assumption) | (with_reducible refine belowThru ?_ (by assumption)) | (with_reducible refine belowAlloc ?_))) hb
  have kn0 : Blk w10 (w2.heap.size) #[.int .i64 r1, .int .i64 r2, .int .i64 r3, .int .i64 r4] 30 := Blk.later hb (by (repeat' first | (with_reducible assumption) | ((with_reducible refine Blk.new ?_); first | rfl | (simp; done)) | (with_reducible refine Blk.alloc ?_)))
  have kn1 : Blk w10 (w3.heap.size) #[.int .i64 f1, .int .i64 f2, .int .i64 f3, .int .i64 f4] 30 := Blk.later hb (by (repeat' first | (with_reducible assumption) | ((with_reducible refine Blk.new ?_); first | rfl | (simp; done)) | (with_reducible refine Blk.alloc ?_)))
  have kn2 : Blk w10 (w4.heap.size) #[.int .i64 d1, .int .i64 d2, .int .i64 d3, .int .i64 d4] 30 := Blk.later hb (by (repeat' first | (with_reducible assumption) | ((with_reducible refine Blk.new ?_); first | rfl | (simp; done)) | (with_reducible refine Blk.alloc ?_)))
  clear k0 a0 b0 y0
  clear k1 a1 b1 y1
  clear k2 a2 b2 y2
  have k0 := kn0; clear kn0; obtain ⟨a0, b0⟩ := k0.read; have y0 := k0.lt
  have k1 := kn1; clear kn1; obtain ⟨a1, b1⟩ := k1.read; have y1 := k1.lt
  have k2 := kn2; clear kn2; obtain ⟨a2, b2⟩ := k2.read; have y2 := k2.lt
  replace hBw : Below w.heap.size w w10 := belowThru (by (repeat' first | (with_reducible exact Below.refl _ _) | (with_reducible assumption) | (with_reducible refine belowThru ?_ (by assumption)) | (with_reducible refine belowAlloc ?_))) hb
  have hzw10 := hBw.size
  clear hb
  go_wp2_with fail
  refine (HD.out _ _ _ (HQ.out.later (by (repeat' first | (with_reducible exact Below.refl _ _) | (with_reducible assumption) | (with_reducible refine belowThru ?_ (by assumption)) | (with_reducible refine belowAlloc ?_))))).mono ?_
  rintro e w11 ⟨rfl, hb⟩
  replace hb1 : Below w6.heap.size w6 w11 := belowThru (by (repeat' first | (with_reducible exact Below.refl _ _) | (with_reducible assumption) | (with_reducible refine belowThru ?_ (by assumption)) | (with_reducible refine belowAlloc ?_))) hb
  replace hb2 : Below w7.heap.size w7 w11 := belowThru (by (repeat' first | (with_reducible exact Below.refl _ _) | (with_reducible assumption) | (with_reducible refine belowThru ?_ (by assumption)) | (with_reducible refine belowAlloc ?_))) hb
  have kn0 : Blk w11 (w2.heap.size) #[.int .i64 r1, .int .i64 r2, .int .i64 r3, .int .i64 r4] 30 := Blk.later hb (by (repeat' first | (with_reducible assumption) | ((with_reducible refine Blk.new ?_); first | rfl | (simp; done)) | (with_reducible refine Blk.alloc ?_)))
  have kn1 : Blk w11 (w3.heap.size) #[.int .i64 f1, .int .i64 f2, .int .i64 f3, .int .i64 f4] 30 := Blk.later hb (by (repeat' first | (with_reducible assumption) | ((with_reducible refine Blk.new ?_); first | rfl | (simp; done)) | (with_reducible refine Blk.alloc ?_)))
  have kn2 : Blk w11 (w4.heap.size) #[.int .i64 d1, .int .i64 d2, .int .i64 d3, .int .i64 d4] 30 := Blk.later hb (by (repeat' first | (with_reducible assumption) | ((with_reducible refine Blk.new ?_); first | rfl | (simp; done)) | (with_reducible refine Blk.alloc ?_)))
  clear k0 a0 b0 y0
  clear k1 a1 b1 y1
  clear k2 a2 b2 y2
  have k0 := kn0; clear kn0; obtain ⟨a0, b0⟩ := k0.read; have y0 := k0.lt
  have k1 := kn1; clear kn1; obtain ⟨a1, b1⟩ := k1.read; have y1 := k1.lt
  have k2 := kn2; clear kn2; obtain ⟨a2, b2⟩ := k2.read; have y2 := k2.lt
  replace hBw : Below w.heap.size w w11 := belowThru (by (repeat' first | (with_reducible exact Below.refl _ _) | (with_reducible assumption) | (with_reducible refine belowThru ?_ (by assumption)) | (with_reducible refine belowAlloc ?_))) hb
  have hzw11 := hBw.size
  clear hb
  go_wp2_with fail
  refine (HF.out _ _ _ (HB.out.later (by (repeat' first | (with_reducible exact Below.refl _ _) | (with_reducible assumption) | (with_reducible refine belowThru ?_ (by assumption)) | (with_reducible refine belowAlloc ?_))))).mono ?_
  rintro e w12 ⟨rfl, hb⟩
  replace hb1 : Below w6.heap.size w6 w12 := belowThru (by (repeat' first | (with_reducible exact Below.refl _ _) | (with_reducible assumption) | (with_reducible refine belowThru ?_ (by assumption)) | (with_reducible refine belowAlloc ?_))) hb
  replace hb2 : Below w7.heap.size w7 w12 := belowThru (by (repeat' first | (with_reducible exact Below.refl _ _) | (with_reducible assumption) | (with_reducible refine belowThru ?_ (by assumption)) | (with_reducible refine belowAlloc ?_))) hb
  have kn0 : Blk w12 (w2.heap.size) #[.int .i64 r1, .int .i64 r2, .int .i64 r3, .int .i64 r4] 30 := Blk.later hb (by (repeat' first | (with_reducible assumption) | ((with_reducible refine Blk.new ?_); first | rfl | (simp; done)) | (with_reducible refine Blk.alloc ?_)))
  have kn1 : Blk w12 (w3.heap.size) #[.int .i64 f1, .int .i64 f2, .int .i64 f3, .int .i64 f4] 30 := Blk.later hb (by (repeat' first | (with_reducible assumption) | ((with_reducible refine Blk.new ?_); first | rfl | (simp; done)) | (with_reducible refine Blk.alloc ?_)))
  have kn2 : Blk w12 (w4.heap.size) #[.int .i64 d1, .int .i64 d2, .int .i64 d3, .int .i64 d4] 30 := Blk.later hb (by (repeat' first | (with_reducible assumption) | ((with_reducible refine Blk.new ?_); first | rfl | (simp; done)) | (with_reducible refine Blk.alloc ?_)))
  clear k0 a0 b0 y0
  clear k1 a1 b1 y1
  clear k2 a2 b2 y2
  have k0 := kn0; clear kn0; obtain ⟨a0, b0⟩ := k0.read; have y0 := k0.lt
  have k1 := kn1; clear kn1; obtain ⟨a1, b1⟩ := k1.read; have y1 := k1.lt
  have k2 := kn2; clear kn2; obtain ⟨a2, b2⟩ := k2.read; have y2 := k2.lt
  replace hBw : Below w.heap.size w w12 := belowThru (by (repeat' first | (with_reducible exact Below.refl _ _) | (with_reducible assumption) | (with_reducible refine belowThru ?_ (by assumption)) | (with_reducible refine belowAlloc ?_))) hb
  have hzw12 := hBw.size
  clear hb
  go_wp2_with fail
  go_ret
  exact ⟨rfl, by (repeat' first | (with_reducible exact Below.refl _ _) | (with_reducible assumption) | (with_reducible refine belowThru ?_ (by assumption)) | (with_reducible refine belowAlloc ?_))⟩
set_option maxRecDepth 100000 in
set_option maxHeartbeats 16000000 in
theorem holds_110 (a : Option Addr) (n c : Nat) (zs : List Int) (a2 : Option Addr) (m2 c2 : Nat) (ms : List Int) (t p nz : Int) (w : World) (hR : Row w a n (iv zs)) (hR2 : Row w a2 m2 (hv ms)) (hl : n ≤ 64) (h0 : 0 ≤ nz) (h1 : nz ≤ 64) (hp0 : 0 ≤ p) (hp1 : p < (n : Int)) (L K : List Int) (B1 B2 B3 B4 : Bool) (r1 r2 r3 r4 f1 f2 f3 f4 d1 d2 d3 d4 E G H M q T A1 A2 C1 C2 D1 D2 F1 F2 X1 X2 Y1 Y2 Y3 Y4 Y5 Y6 : Int) (hM : IntKind.i64.wrap ((n : Int) - 1) = M) (hq : IntKind.i64.wrap (M - p) = q) (hT : IntKind.i64.wrap (4 * t) = T) (hY1 : IntKind.i64.wrap (M * F2) = Y1) (hY2 : IntKind.i64.wrap (Y1 - F1) = Y2) (hY3 : IntKind.i64.wrap (Y2 * D2) = Y3) (hY4 : IntKind.i64.wrap (D1 * F2) = Y4) (hY5 : IntKind.i64.wrap (Y3 - Y4) = Y5) (hY6 : IntKind.i64.wrap (D2 * F2) = Y6) (hE : (E == 0) = false) (hG : (G == 0) = false)
    (HX : Hid (∀ w : World, Row w a n (iv zs) → Calls Try.prog 21 #[.slice a n c, .int .i64 t, .int .i64 p, .int .i64 nz] w fun e w' => e = .returned (.tuple #[.agg #[.int .i64 r1, .int .i64 r2, .int .i64 r3, .int .i64 r4], .int .i64 E]) ∧ Below w.heap.size w w')) (HY : Hid (∀ w : World, Row w a n (iv zs) → Calls Try.prog 20 #[.slice a n c, .int .i64 t, .int .i64 p, .int .i64 nz] w fun e w' => e = .returned (.tuple #[.agg #[.int .i64 f1, .int .i64 f2, .int .i64 f3, .int .i64 f4], .int .i64 G]) ∧ Below w.heap.size w w')) (HW : Hid (∀ w : World, Row w a n (iv zs) → Calls Try.prog 39 #[.slice a n c, .int .i64 t, .int .i64 nz] w fun e w' => e = .returned (.tuple #[.agg #[.int .i64 d1, .int .i64 d2, .int .i64 d3, .int .i64 d4], .int .i64 0]) ∧ Below w.heap.size w w')) (HV : Hid (∀ w : World, Row w a n (iv zs) → Calls Try.prog 51 #[.slice a n c] w fun e w' => e = .returned (.bool true) ∧ Below w.heap.size w w')) (HAL : Hid (∀ w : World, Row w a n (iv zs) → Row w a2 m2 (hv ms) → Calls Try.prog 52 #[.slice a n c, .slice a2 m2 c2, .int .i64 nz] w fun e w' => ∃ v c', e = .returned (.slice v n c') ∧ Row w' v n (iv L) ∧ Below w.heap.size w w')) (HRV : Hid (∀ (v : Option Addr) (c : Nat) (w : World), Row w v n (iv L) → Calls Try.prog 49 #[.slice v n c] w fun e w' => ∃ v' c', e = .returned (.slice v' n c') ∧ Row w' v' n (iv K) ∧ Below w.heap.size w w')) (HA : Hid (∀ (v : Option Addr) (c : Nat) (w : World), Row w v n (iv L) → Calls Try.prog 53 #[.slice v n c, .int .i64 T, .int .i64 p] w fun e w' => e = .returned (.tuple #[.int .i64 A1, .int .i64 A2, .bool B1]) ∧ Below w.heap.size w w')) (HC : Hid (∀ (v : Option Addr) (c : Nat) (w : World), Row w v n (iv K) → Calls Try.prog 53 #[.slice v n c, .int .i64 T, .int .i64 q] w fun e w' => e = .returned (.tuple #[.int .i64 C1, .int .i64 C2, .bool B2]) ∧ Below w.heap.size w w')) (HD : Hid (∀ (v : Option Addr) (c : Nat) (w : World), Row w v n (iv L) → Calls Try.prog 53 #[.slice v n c, .int .i64 T, .int .i64 0] w fun e w' => e = .returned (.tuple #[.int .i64 D1, .int .i64 D2, .bool true]) ∧ Below w.heap.size w w')) (HF : Hid (∀ (v : Option Addr) (c : Nat) (w : World), Row w v n (iv K) → Calls Try.prog 53 #[.slice v n c, .int .i64 T, .int .i64 0] w fun e w' => e = .returned (.tuple #[.int .i64 F1, .int .i64 F2, .bool true]) ∧ Below w.heap.size w w')) (HOD : Hid (∀ w : World, Calls Try.prog 54 #[.agg #[.int .i64 d1, .int .i64 d2, .int .i64 d3, .int .i64 d4], .int .i64 Y5, .int .i64 Y6] w fun e w' => e = .returned (.bool true) ∧ Below w.heap.size w w')) :
    Calls Try.prog 10 #[.slice a n c, .slice a2 m2 c2, .int .i64 t, .int .i64 p, .int .i64 nz] w fun e w' => e = .returned (.bool true) ∧ Below w.heap.size w w' := by
  have hd : decide (64 < (n : Int)) = false := by simp; omega
  have hd1 : decide (nz < 0) = false := by simp; omega
  have hd2 : decide (64 < nz) = false := by simp; omega
  have hd3 : decide (p < 0) = false := by simp; omega
  have hd4 : decide ((n : Int) ≤ p) = false := by simp; omega
  have HR := Lib.hid hR
  clear hR
  have HR2 := Lib.hid hR2
  clear hR2
  go_enter Try.func10, Try.ntmps10
  go_wp2_with fail
  refine (alive_true _).mono ?_
  rintro e w1 ⟨rfl, hb⟩
  have hBw : Below w.heap.size w w1 := by (repeat' first | (with_reducible exact Below.refl _ _) | (with_reducible assumption) | (with_reducible refine belowThru ?_ (by assumption)) | (with_reducible refine belowAlloc ?_))
  have hzw1 := hBw.size
  clear hb
  go_wp2_with fail
  refine (HX.out _ (HR.out.later (by (repeat' first | (with_reducible exact Below.refl _ _) | (with_reducible assumption) | (with_reducible refine belowThru ?_ (by assumption)) | (with_reducible refine belowAlloc ?_))))).mono ?_
  rintro e w2 ⟨rfl, hb⟩
  replace hBw : Below w.heap.size w w2 := belowThru (by (repeat' first | (with_reducible exact Below.refl _ _) | (with_reducible assumption) | (with_reducible refine belowThru ?_ (by assumption)) | (with_reducible refine belowAlloc ?_))) hb
  have hzw2 := hBw.size
  clear hb
  go_wp2_with fail
  refine (HY.out _ (HR.out.later (by (repeat' first | (with_reducible exact Below.refl _ _) | (with_reducible assumption) | (with_reducible refine belowThru ?_ (by assumption)) | (with_reducible refine belowAlloc ?_))))).mono ?_
  rintro e w3 ⟨rfl, hb⟩
  have kn0 : Blk w3 (w2.heap.size) #[.int .i64 r1, .int .i64 r2, .int .i64 r3, .int .i64 r4] 30 := Blk.later hb (by (repeat' first | (with_reducible assumption) | ((with_reducible refine Blk.new ?_); first | rfl | (simp; done)) | (with_reducible refine Blk.alloc ?_)))
  have k0 := kn0; clear kn0; obtain ⟨a0, b0⟩ := k0.read; have y0 := k0.lt
  replace hBw : Below w.heap.size w w3 := belowThru (by (repeat' first | (with_reducible exact Below.refl _ _) | (with_reducible assumption) | (with_reducible refine belowThru ?_ (by assumption)) | (with_reducible refine belowAlloc ?_))) hb
  have hzw3 := hBw.size
  clear hb
  go_wp2_with fail
  refine (HW.out _ (HR.out.later (by (repeat' first | (with_reducible exact Below.refl _ _) | (with_reducible assumption) | (with_reducible refine belowThru ?_ (by assumption)) | (with_reducible refine belowAlloc ?_))))).mono ?_
  rintro e w4 ⟨rfl, hb⟩
  have kn0 : Blk w4 (w2.heap.size) #[.int .i64 r1, .int .i64 r2, .int .i64 r3, .int .i64 r4] 30 := Blk.later hb (by (repeat' first | (with_reducible assumption) | ((with_reducible refine Blk.new ?_); first | rfl | (simp; done)) | (with_reducible refine Blk.alloc ?_)))
  have kn1 : Blk w4 (w3.heap.size) #[.int .i64 f1, .int .i64 f2, .int .i64 f3, .int .i64 f4] 30 := Blk.later hb (by (repeat' first | (with_reducible assumption) | ((with_reducible refine Blk.new ?_); first | rfl | (simp; done)) | (with_reducible refine Blk.alloc ?_)))
  clear k0 a0 b0 y0
  have k0 := kn0; clear kn0; obtain ⟨a0, b0⟩ := k0.read; have y0 := k0.lt
  have k1 := kn1; clear kn1; obtain ⟨a1, b1⟩ := k1.read; have y1 := k1.lt
  replace hBw : Below w.heap.size w w4 := belowThru (by (repeat' first | (with_reducible exact Below.refl _ _) | (with_reducible assumption) | (with_reducible refine belowThru ?_ (by assumption)) | (with_reducible refine belowAlloc ?_))) hb
  have hzw4 := hBw.size
  clear hb
  go_wp2_with fail
  refine (HV.out _ (HR.out.later (by (repeat' first | (with_reducible exact Below.refl _ _) | (with_reducible assumption) | (with_reducible refine belowThru ?_ (by assumption)) | (with_reducible refine belowAlloc ?_))))).mono ?_
  rintro e w5 ⟨rfl, hb⟩
  have kn0 : Blk w5 (w2.heap.size) #[.int .i64 r1, .int .i64 r2, .int .i64 r3, .int .i64 r4] 30 := Blk.later hb (by (repeat' first | (with_reducible assumption) | ((with_reducible refine Blk.new ?_); first | rfl | (simp; done)) | (with_reducible refine Blk.alloc ?_)))
  have kn1 : Blk w5 (w3.heap.size) #[.int .i64 f1, .int .i64 f2, .int .i64 f3, .int .i64 f4] 30 := Blk.later hb (by (repeat' first | (with_reducible assumption) | ((with_reducible refine Blk.new ?_); first | rfl | (simp; done)) | (with_reducible refine Blk.alloc ?_)))
  have kn2 : Blk w5 (w4.heap.size) #[.int .i64 d1, .int .i64 d2, .int .i64 d3, .int .i64 d4] 30 := Blk.later hb (by (repeat' first | (with_reducible assumption) | ((with_reducible refine Blk.new ?_); first | rfl | (simp; done)) | (with_reducible refine Blk.alloc ?_)))
  clear k0 a0 b0 y0
  clear k1 a1 b1 y1
  have k0 := kn0; clear kn0; obtain ⟨a0, b0⟩ := k0.read; have y0 := k0.lt
  have k1 := kn1; clear kn1; obtain ⟨a1, b1⟩ := k1.read; have y1 := k1.lt
  have k2 := kn2; clear kn2; obtain ⟨a2, b2⟩ := k2.read; have y2 := k2.lt
  replace hBw : Below w.heap.size w w5 := belowThru (by (repeat' first | (with_reducible exact Below.refl _ _) | (with_reducible assumption) | (with_reducible refine belowThru ?_ (by assumption)) | (with_reducible refine belowAlloc ?_))) hb
  have hzw5 := hBw.size
  clear hb
  go_wp2_with fail
  refine (HAL.out _ (HR.out.later (by (repeat' first | (with_reducible exact Below.refl _ _) | (with_reducible assumption) | (with_reducible refine belowThru ?_ (by assumption)) | (with_reducible refine belowAlloc ?_)))) (HR2.out.later (by (repeat' first | (with_reducible exact Below.refl _ _) | (with_reducible assumption) | (with_reducible refine belowThru ?_ (by assumption)) | (with_reducible refine belowAlloc ?_))))).mono ?_
  rintro e w6 ⟨v, c', rfl, hRow, hb⟩
  have HQ := Lib.hid hRow
  clear hRow
  have kn0 : Blk w6 (w2.heap.size) #[.int .i64 r1, .int .i64 r2, .int .i64 r3, .int .i64 r4] 30 := Blk.later hb (by (repeat' first | (with_reducible assumption) | ((with_reducible refine Blk.new ?_); first | rfl | (simp; done)) | (with_reducible refine Blk.alloc ?_)))
  have kn1 : Blk w6 (w3.heap.size) #[.int .i64 f1, .int .i64 f2, .int .i64 f3, .int .i64 f4] 30 := Blk.later hb (by (repeat' first | (with_reducible assumption) | ((with_reducible refine Blk.new ?_); first | rfl | (simp; done)) | (with_reducible refine Blk.alloc ?_)))
  have kn2 : Blk w6 (w4.heap.size) #[.int .i64 d1, .int .i64 d2, .int .i64 d3, .int .i64 d4] 30 := Blk.later hb (by (repeat' first | (with_reducible assumption) | ((with_reducible refine Blk.new ?_); first | rfl | (simp; done)) | (with_reducible refine Blk.alloc ?_)))
  clear k0 a0 b0 y0
  clear k1 a1 b1 y1
  clear k2 a2 b2 y2
  have k0 := kn0; clear kn0; obtain ⟨a0, b0⟩ := k0.read; have y0 := k0.lt
  have k1 := kn1; clear kn1; obtain ⟨a1, b1⟩ := k1.read; have y1 := k1.lt
  have k2 := kn2; clear kn2; obtain ⟨a2, b2⟩ := k2.read; have y2 := k2.lt
  replace hBw : Below w.heap.size w w6 := belowThru (by (repeat' first | (with_reducible exact Below.refl _ _) | (with_reducible assumption) | (with_reducible refine belowThru ?_ (by assumption)) | (with_reducible refine belowAlloc ?_))) hb
  have hzw6 := hBw.size
  clear hb
  have hb1 : Below w6.heap.size w6 w6 := Below.refl _ _
  go_wp2_with fail
  refine (HRV.out _ _ _ (HQ.out.later (by (repeat' first | (with_reducible exact Below.refl _ _) | (with_reducible assumption) | (with_reducible refine belowThru ?_ (by assumption)) | (with_reducible refine belowAlloc ?_))))).mono ?_
  rintro e w7 ⟨v', c'', rfl, hRow, hb⟩
  have HB := Lib.hid hRow
  clear hRow
  replace hb1 : Below w6.heap.size w6 w7 := belowThru (by (repeat' first | (with_reducible exact Below.refl _ _) | (with_reducible assumption) | (with_reducible refine belowThru ?_ (by assumption)) | (with_reducible refine belowAlloc ?_))) hb
  have kn0 : Blk w7 (w2.heap.size) #[.int .i64 r1, .int .i64 r2, .int .i64 r3, .int .i64 r4] 30 := Blk.later hb (by (repeat' first | (with_reducible assumption) | ((with_reducible refine Blk.new ?_); first | rfl | (simp; done)) | (with_reducible refine Blk.alloc ?_)))
  have kn1 : Blk w7 (w3.heap.size) #[.int .i64 f1, .int .i64 f2, .int .i64 f3, .int .i64 f4] 30 := Blk.later hb (by (repeat' first | (with_reducible assumption) | ((with_reducible refine Blk.new ?_); first | rfl | (simp; done)) | (with_reducible refine Blk.alloc ?_)))
  have kn2 : Blk w7 (w4.heap.size) #[.int .i64 d1, .int .i64 d2, .int .i64 d3, .int .i64 d4] 30 := Blk.later hb (by (repeat' first | (with_reducible assumption) | ((with_reducible refine Blk.new ?_); first | rfl | (simp; done)) | (with_reducible refine Blk.alloc ?_)))
  clear k0 a0 b0 y0
  clear k1 a1 b1 y1
  clear k2 a2 b2 y2
  have k0 := kn0; clear kn0; obtain ⟨a0, b0⟩ := k0.read; have y0 := k0.lt
  have k1 := kn1; clear kn1; obtain ⟨a1, b1⟩ := k1.read; have y1 := k1.lt
  have k2 := kn2; clear kn2; obtain ⟨a2, b2⟩ := k2.read; have y2 := k2.lt
  replace hBw : Below w.heap.size w w7 := belowThru (by (repeat' first | (with_reducible exact Below.refl _ _) | (with_reducible assumption) | (with_reducible refine belowThru ?_ (by assumption)) | (with_reducible refine belowAlloc ?_))) hb
  have hzw7 := hBw.size
  clear hb
  have hb2 : Below w7.heap.size w7 w7 := Below.refl _ _
  go_wp2_with fail
  refine (HA.out _ _ _ (HQ.out.later (by (repeat' first | (with_reducible exact Below.refl _ _) | (with_reducible assumption) | (with_reducible refine belowThru ?_ (by assumption)) | (with_reducible refine belowAlloc ?_))))).mono ?_
  rintro e w8 ⟨rfl, hb⟩
  replace hb1 : Below w6.heap.size w6 w8 := belowThru (by (repeat' first | (with_reducible exact Below.refl _ _) | (with_reducible assumption) | (with_reducible refine belowThru ?_ (by assumption)) | (with_reducible refine belowAlloc ?_))) hb
  replace hb2 : Below w7.heap.size w7 w8 := belowThru (by (repeat' first | (with_reducible exact Below.refl _ _) | (with_reducible assumption) | (with_reducible refine belowThru ?_ (by assumption)) | (with_reducible refine belowAlloc ?_))) hb
  have kn0 : Blk w8 (w2.heap.size) #[.int .i64 r1, .int .i64 r2, .int .i64 r3, .int .i64 r4] 30 := Blk.later hb (by (repeat' first | (with_reducible assumption) | ((with_reducible refine Blk.new ?_); first | rfl | (simp; done)) | (with_reducible refine Blk.alloc ?_)))
  have kn1 : Blk w8 (w3.heap.size) #[.int .i64 f1, .int .i64 f2, .int .i64 f3, .int .i64 f4] 30 := Blk.later hb (by (repeat' first | (with_reducible assumption) | ((with_reducible refine Blk.new ?_); first | rfl | (simp; done)) | (with_reducible refine Blk.alloc ?_)))
  have kn2 : Blk w8 (w4.heap.size) #[.int .i64 d1, .int .i64 d2, .int .i64 d3, .int .i64 d4] 30 := Blk.later hb (by (repeat' first | (with_reducible assumption) | ((with_reducible refine Blk.new ?_); first | rfl | (simp; done)) | (with_reducible refine Blk.alloc ?_)))
  clear k0 a0 b0 y0
  clear k1 a1 b1 y1
  clear k2 a2 b2 y2
  have k0 := kn0; clear kn0; obtain ⟨a0, b0⟩ := k0.read; have y0 := k0.lt
  have k1 := kn1; clear kn1; obtain ⟨a1, b1⟩ := k1.read; have y1 := k1.lt
  have k2 := kn2; clear kn2; obtain ⟨a2, b2⟩ := k2.read; have y2 := k2.lt
  replace hBw : Below w.heap.size w w8 := belowThru (by (repeat' first | (with_reducible exact Below.refl _ _) | (with_reducible assumption) | (with_reducible refine belowThru ?_ (by assumption)) | (with_reducible refine belowAlloc ?_))) hb
  have hzw8 := hBw.size
  clear hb
  go_wp2_with fail
  refine (HC.out _ _ _ (HB.out.later (by (repeat' first | (with_reducible exact Below.refl _ _) | (with_reducible assumption) | (with_reducible refine belowThru ?_ (by assumption)) | (with_reducible refine belowAlloc ?_))))).mono ?_
  rintro e w9 ⟨rfl, hb⟩
  replace hb1 : Below w6.heap.size w6 w9 := belowThru (by (repeat' first | (with_reducible exact Below.refl _ _) | (with_reducible assumption) | (with_reducible refine belowThru ?_ (by assumption)) | (with_reducible refine belowAlloc ?_))) hb
  replace hb2 : Below w7.heap.size w7 w9 := belowThru (by (repeat' first | (with_reducible exact Below.refl _ _) | (with_reducible assumption) | (with_reducible refine belowThru ?_ (by assumption)) | (with_reducible refine belowAlloc ?_))) hb
  have kn0 : Blk w9 (w2.heap.size) #[.int .i64 r1, .int .i64 r2, .int .i64 r3, .int .i64 r4] 30 := Blk.later hb (by (repeat' first | (with_reducible assumption) | ((with_reducible refine Blk.new ?_); first | rfl | (simp; done)) | (with_reducible refine Blk.alloc ?_)))
  have kn1 : Blk w9 (w3.heap.size) #[.int .i64 f1, .int .i64 f2, .int .i64 f3, .int .i64 f4] 30 := Blk.later hb (by (repeat' first | (with_reducible assumption) | ((with_reducible refine Blk.new ?_); first | rfl | (simp; done)) | (with_reducible refine Blk.alloc ?_)))
  have kn2 : Blk w9 (w4.heap.size) #[.int .i64 d1, .int .i64 d2, .int .i64 d3, .int .i64 d4] 30 := Blk.later hb (by (repeat' first | (with_reducible assumption) | ((with_reducible refine Blk.new ?_); first | rfl | (simp; done)) | (with_reducible refine Blk.alloc ?_)))
  clear k0 a0 b0 y0
  clear k1 a1 b1 y1
  clear k2 a2 b2 y2
  have k0 := kn0; clear kn0; obtain ⟨a0, b0⟩ := k0.read; have y0 := k0.lt
  have k1 := kn1; clear kn1; obtain ⟨a1, b1⟩ := k1.read; have y1 := k1.lt
  have k2 := kn2; clear kn2; obtain ⟨a2, b2⟩ := k2.read; have y2 := k2.lt
  replace hBw : Below w.heap.size w w9 := belowThru (by (repeat' first | (with_reducible exact Below.refl _ _) | (with_reducible assumption) | (with_reducible refine belowThru ?_ (by assumption)) | (with_reducible refine belowAlloc ?_))) hb
  have hzw9 := hBw.size
  clear hb
  go_wp2_with fail
  refine (HD.out _ _ _ (HQ.out.later (by (repeat' first | (with_reducible exact Below.refl _ _) | (with_reducible assumption) | (with_reducible refine belowThru ?_ (by assumption)) | (with_reducible refine belowAlloc ?_))))).mono ?_
  rintro e w10 ⟨rfl, hb⟩
  replace hb1 : Below w6.heap.size w6 w10 := belowThru (by (repeat' first | (with_reducible exact Below.refl _ _) | (with_reducible assumption) | (with_reducible refine belowThru ?_ (by assumption)) | (with_reducible refine belowAlloc ?_))) hb
  replace hb2 : Below w7.heap.size w7 w10 := belowThru (by (repeat' first | (with_reducible exact Below.refl _ _) | (with_reducible assumption) | (with_reducible refine belowThru ?_ (by assumption)) | (with_reducible refine belowAlloc ?_))) hb
  have kn0 : Blk w10 (w2.heap.size) #[.int .i64 r1, .int .i64 r2, .int .i64 r3, .int .i64 r4] 30 := Blk.later hb (by (repeat' first | (with_reducible assumption) | ((with_reducible refine Blk.new ?_); first | rfl | (simp; done)) | (with_reducible refine Blk.alloc ?_)))
  have kn1 : Blk w10 (w3.heap.size) #[.int .i64 f1, .int .i64 f2, .int .i64 f3, .int .i64 f4] 30 := Blk.later hb (by (repeat' first | (with_reducible assumption) | ((with_reducible refine Blk.new ?_); first | rfl | (simp; done)) | (with_reducible refine Blk.alloc ?_)))
  have kn2 : Blk w10 (w4.heap.size) #[.int .i64 d1, .int .i64 d2, .int .i64 d3, .int .i64 d4] 30 := Blk.later hb (by (repeat' first | (with_reducible assumption) | ((with_reducible refine Blk.new ?_); first | rfl | (simp; done)) | (with_reducible refine Blk.alloc ?_)))
  clear k0 a0 b0 y0
  clear k1 a1 b1 y1
  clear k2 a2 b2 y2
  have k0 := kn0; clear kn0; obtain ⟨a0, b0⟩ := k0.read; have y0 := k0.lt
  have k1 := kn1; clear kn1; obtain ⟨a1, b1⟩ := k1.read; have y1 := k1.lt
  have k2 := kn2; clear kn2; obtain ⟨a2, b2⟩ := k2.read; have y2 := k2.lt
  replace hBw : Below w.heap.size w w10 := belowThru (by (repeat' first | (with_reducible exact Below.refl _ _) | (with_reducible assumption) | (with_reducible refine belowThru ?_ (by assumption)) | (with_reducible refine belowAlloc ?_))) hb
  have hzw10 := hBw.size
  clear hb
  go_wp2_with fail
  refine (HF.out _ _ _ (HB.out.later (by (repeat' first | (with_reducible exact Below.refl _ _) | (with_reducible assumption) | (with_reducible refine belowThru ?_ (by assumption)) | (with_reducible refine belowAlloc ?_))))).mono ?_
  rintro e w11 ⟨rfl, hb⟩
  replace hb1 : Below w6.heap.size w6 w11 := belowThru (by (repeat' first | (with_reducible exact Below.refl _ _) | (with_reducible assumption) | (with_reducible refine belowThru ?_ (by assumption)) | (with_reducible refine belowAlloc ?_))) hb
  replace hb2 : Below w7.heap.size w7 w11 := belowThru (by (repeat' first | (with_reducible exact Below.refl _ _) | (with_reducible assumption) | (with_reducible refine belowThru ?_ (by assumption)) | (with_reducible refine belowAlloc ?_))) hb
  have kn0 : Blk w11 (w2.heap.size) #[.int .i64 r1, .int .i64 r2, .int .i64 r3, .int .i64 r4] 30 := Blk.later hb (by (repeat' first | (with_reducible assumption) | ((with_reducible refine Blk.new ?_); first | rfl | (simp; done)) | (with_reducible refine Blk.alloc ?_)))
  have kn1 : Blk w11 (w3.heap.size) #[.int .i64 f1, .int .i64 f2, .int .i64 f3, .int .i64 f4] 30 := Blk.later hb (by (repeat' first | (with_reducible assumption) | ((with_reducible refine Blk.new ?_); first | rfl | (simp; done)) | (with_reducible refine Blk.alloc ?_)))
  have kn2 : Blk w11 (w4.heap.size) #[.int .i64 d1, .int .i64 d2, .int .i64 d3, .int .i64 d4] 30 := Blk.later hb (by (repeat' first | (with_reducible assumption) | ((with_reducible refine Blk.new ?_); first | rfl | (simp; done)) | (with_reducible refine Blk.alloc ?_)))
  clear k0 a0 b0 y0
  clear k1 a1 b1 y1
  clear k2 a2 b2 y2
  have k0 := kn0; clear kn0; obtain ⟨a0, b0⟩ := k0.read; have y0 := k0.lt
  have k1 := kn1; clear kn1; obtain ⟨a1, b1⟩ := k1.read; have y1 := k1.lt
  have k2 := kn2; clear kn2; obtain ⟨a2, b2⟩ := k2.read; have y2 := k2.lt
  replace hBw : Below w.heap.size w w11 := belowThru (by (repeat' first | (with_reducible exact Below.refl _ _) | (with_reducible assumption) | (with_reducible refine belowThru ?_ (by assumption)) | (with_reducible refine belowAlloc ?_))) hb
  have hzw11 := hBw.size
  clear hb
  go_wp2_with fail
  refine (HOD.out _).mono ?_
  rintro e w12 ⟨rfl, hb⟩
  replace hb1 : Below w6.heap.size w6 w12 := belowThru (by (repeat' first | (with_reducible exact Below.refl _ _) | (with_reducible assumption) | (with_reducible refine belowThru ?_ (by assumption)) | (with_reducible refine belowAlloc ?_))) hb
  replace hb2 : Below w7.heap.size w7 w12 := belowThru (by (repeat' first | (with_reducible exact Below.refl _ _) | (with_reducible assumption) | (with_reducible refine belowThru ?_ (by assumption)) | (with_reducible refine belowAlloc ?_))) hb
  have kn0 : Blk w12 (w2.heap.size) #[.int .i64 r1, .int .i64 r2, .int .i64 r3, .int .i64 r4] 30 := Blk.later hb (by (repeat' first | (with_reducible assumption) | ((with_reducible refine Blk.new ?_); first | rfl | (simp; done)) | (with_reducible refine Blk.alloc ?_)))
  have kn1 : Blk w12 (w3.heap.size) #[.int .i64 f1, .int .i64 f2, .int .i64 f3, .int .i64 f4] 30 := Blk.later hb (by (repeat' first | (with_reducible assumption) | ((with_reducible refine Blk.new ?_); first | rfl | (simp; done)) | (with_reducible refine Blk.alloc ?_)))
  have kn2 : Blk w12 (w4.heap.size) #[.int .i64 d1, .int .i64 d2, .int .i64 d3, .int .i64 d4] 30 := Blk.later hb (by (repeat' first | (with_reducible assumption) | ((with_reducible refine Blk.new ?_); first | rfl | (simp; done)) | (with_reducible refine Blk.alloc ?_)))
  clear k0 a0 b0 y0
  clear k1 a1 b1 y1
  clear k2 a2 b2 y2
  have k0 := kn0; clear kn0; obtain ⟨a0, b0⟩ := k0.read; have y0 := k0.lt
  have k1 := kn1; clear kn1; obtain ⟨a1, b1⟩ := k1.read; have y1 := k1.lt
  have k2 := kn2; clear kn2; obtain ⟨a2, b2⟩ := k2.read; have y2 := k2.lt
  replace hBw : Below w.heap.size w w12 := belowThru (by (repeat' first | (with_reducible exact Below.refl _ _) | (with_reducible assumption) | (with_reducible refine belowThru ?_ (by assumption)) | (with_reducible refine belowAlloc ?_))) hb
  have hzw12 := hBw.size
  clear hb
  go_wp2_with fail
  go_ret
  exact ⟨rfl, by (repeat' first | (with_reducible exact Below.refl _ _) | (with_reducible assumption) | (with_reducible refine belowThru ?_ (by assumption)) | (with_reducible refine belowAlloc ?_))⟩
set_option maxRecDepth 100000 in
set_option maxHeartbeats 16000000 in
theorem holds_111 (a : Option Addr) (n c : Nat) (zs : List Int) (a2 : Option Addr) (m2 c2 : Nat) (ms : List Int) (t p nz : Int) (w : World) (hR : Row w a n (iv zs)) (hR2 : Row w a2 m2 (hv ms)) (hl : n ≤ 64) (h0 : 0 ≤ nz) (h1 : nz ≤ 64) (hp0 : 0 ≤ p) (hp1 : p < (n : Int)) (L K : List Int) (B1 B2 B3 B4 : Bool) (r1 r2 r3 r4 f1 f2 f3 f4 d1 d2 d3 d4 E G H M q T A1 A2 C1 C2 D1 D2 F1 F2 X1 X2 Y1 Y2 Y3 Y4 Y5 Y6 : Int) (hM : IntKind.i64.wrap ((n : Int) - 1) = M) (hq : IntKind.i64.wrap (M - p) = q) (hT : IntKind.i64.wrap (4 * t) = T) (hE : (E == 0) = false) (hG : (G == 0) = false) (hH : (H != 0) = true)
    (HX : Hid (∀ w : World, Row w a n (iv zs) → Calls Try.prog 21 #[.slice a n c, .int .i64 t, .int .i64 p, .int .i64 nz] w fun e w' => e = .returned (.tuple #[.agg #[.int .i64 r1, .int .i64 r2, .int .i64 r3, .int .i64 r4], .int .i64 E]) ∧ Below w.heap.size w w')) (HY : Hid (∀ w : World, Row w a n (iv zs) → Calls Try.prog 20 #[.slice a n c, .int .i64 t, .int .i64 p, .int .i64 nz] w fun e w' => e = .returned (.tuple #[.agg #[.int .i64 f1, .int .i64 f2, .int .i64 f3, .int .i64 f4], .int .i64 G]) ∧ Below w.heap.size w w')) (HW : Hid (∀ w : World, Row w a n (iv zs) → Calls Try.prog 39 #[.slice a n c, .int .i64 t, .int .i64 nz] w fun e w' => e = .returned (.tuple #[.agg #[.int .i64 d1, .int .i64 d2, .int .i64 d3, .int .i64 d4], .int .i64 H]) ∧ Below w.heap.size w w')) (HV : Hid (∀ w : World, Row w a n (iv zs) → Calls Try.prog 51 #[.slice a n c] w fun e w' => e = .returned (.bool true) ∧ Below w.heap.size w w')) (HAL : Hid (∀ w : World, Row w a n (iv zs) → Row w a2 m2 (hv ms) → Calls Try.prog 52 #[.slice a n c, .slice a2 m2 c2, .int .i64 nz] w fun e w' => ∃ v c', e = .returned (.slice v n c') ∧ Row w' v n (iv L) ∧ Below w.heap.size w w')) (HRV : Hid (∀ (v : Option Addr) (c : Nat) (w : World), Row w v n (iv L) → Calls Try.prog 49 #[.slice v n c] w fun e w' => ∃ v' c', e = .returned (.slice v' n c') ∧ Row w' v' n (iv K) ∧ Below w.heap.size w w')) (HA : Hid (∀ (v : Option Addr) (c : Nat) (w : World), Row w v n (iv L) → Calls Try.prog 53 #[.slice v n c, .int .i64 T, .int .i64 p] w fun e w' => e = .returned (.tuple #[.int .i64 A1, .int .i64 A2, .bool B1]) ∧ Below w.heap.size w w')) (HC : Hid (∀ (v : Option Addr) (c : Nat) (w : World), Row w v n (iv K) → Calls Try.prog 53 #[.slice v n c, .int .i64 T, .int .i64 q] w fun e w' => e = .returned (.tuple #[.int .i64 C1, .int .i64 C2, .bool B2]) ∧ Below w.heap.size w w')) (HD : Hid (∀ (v : Option Addr) (c : Nat) (w : World), Row w v n (iv L) → Calls Try.prog 53 #[.slice v n c, .int .i64 T, .int .i64 0] w fun e w' => e = .returned (.tuple #[.int .i64 D1, .int .i64 D2, .bool B3]) ∧ Below w.heap.size w w')) (HF : Hid (∀ (v : Option Addr) (c : Nat) (w : World), Row w v n (iv K) → Calls Try.prog 53 #[.slice v n c, .int .i64 T, .int .i64 0] w fun e w' => e = .returned (.tuple #[.int .i64 F1, .int .i64 F2, .bool B4]) ∧ Below w.heap.size w w')) :
    Calls Try.prog 10 #[.slice a n c, .slice a2 m2 c2, .int .i64 t, .int .i64 p, .int .i64 nz] w fun e w' => e = .returned (.bool true) ∧ Below w.heap.size w w' := by
  have hd : decide (64 < (n : Int)) = false := by simp; omega
  have hd1 : decide (nz < 0) = false := by simp; omega
  have hd2 : decide (64 < nz) = false := by simp; omega
  have hd3 : decide (p < 0) = false := by simp; omega
  have hd4 : decide ((n : Int) ≤ p) = false := by simp; omega
  have HR := Lib.hid hR
  clear hR
  have HR2 := Lib.hid hR2
  clear hR2
  go_enter Try.func10, Try.ntmps10
  go_wp2_with fail
  refine (alive_true _).mono ?_
  rintro e w1 ⟨rfl, hb⟩
  have hBw : Below w.heap.size w w1 := by (repeat' first | (with_reducible exact Below.refl _ _) | (with_reducible assumption) | (with_reducible refine belowThru ?_ (by assumption)) | (with_reducible refine belowAlloc ?_))
  have hzw1 := hBw.size
  clear hb
  go_wp2_with fail
  refine (HX.out _ (HR.out.later (by (repeat' first | (with_reducible exact Below.refl _ _) | (with_reducible assumption) | (with_reducible refine belowThru ?_ (by assumption)) | (with_reducible refine belowAlloc ?_))))).mono ?_
  rintro e w2 ⟨rfl, hb⟩
  replace hBw : Below w.heap.size w w2 := belowThru (by (repeat' first | (with_reducible exact Below.refl _ _) | (with_reducible assumption) | (with_reducible refine belowThru ?_ (by assumption)) | (with_reducible refine belowAlloc ?_))) hb
  have hzw2 := hBw.size
  clear hb
  go_wp2_with fail
  refine (HY.out _ (HR.out.later (by (repeat' first | (with_reducible exact Below.refl _ _) | (with_reducible assumption) | (with_reducible refine belowThru ?_ (by assumption)) | (with_reducible refine belowAlloc ?_))))).mono ?_
  rintro e w3 ⟨rfl, hb⟩
  have kn0 : Blk w3 (w2.heap.size) #[.int .i64 r1, .int .i64 r2, .int .i64 r3, .int .i64 r4] 30 := Blk.later hb (by (repeat' first | (with_reducible assumption) | ((with_reducible refine Blk.new ?_); first | rfl | (simp; done)) | (with_reducible refine Blk.alloc ?_)))
  have k0 := kn0; clear kn0; obtain ⟨a0, b0⟩ := k0.read; have y0 := k0.lt
  replace hBw : Below w.heap.size w w3 := belowThru (by (repeat' first | (with_reducible exact Below.refl _ _) | (with_reducible assumption) | (with_reducible refine belowThru ?_ (by assumption)) | (with_reducible refine belowAlloc ?_))) hb
  have hzw3 := hBw.size
  clear hb
  go_wp2_with fail
  refine (HW.out _ (HR.out.later (by (repeat' first | (with_reducible exact Below.refl _ _) | (with_reducible assumption) | (with_reducible refine belowThru ?_ (by assumption)) | (with_reducible refine belowAlloc ?_))))).mono ?_
  rintro e w4 ⟨rfl, hb⟩
  have kn0 : Blk w4 (w2.heap.size) #[.int .i64 r1, .int .i64 r2, .int .i64 r3, .int .i64 r4] 30 := Blk.later hb (by (repeat' first | (with_reducible assumption) | ((with_reducible refine Blk.new ?_); first | rfl | (simp; done)) | (with_reducible refine Blk.alloc ?_)))
  have kn1 : Blk w4 (w3.heap.size) #[.int .i64 f1, .int .i64 f2, .int .i64 f3, .int .i64 f4] 30 := Blk.later hb (by (repeat' first | (with_reducible assumption) | ((with_reducible refine Blk.new ?_); first | rfl | (simp; done)) | (with_reducible refine Blk.alloc ?_)))
  clear k0 a0 b0 y0
  have k0 := kn0; clear kn0; obtain ⟨a0, b0⟩ := k0.read; have y0 := k0.lt
  have k1 := kn1; clear kn1; obtain ⟨a1, b1⟩ := k1.read; have y1 := k1.lt
  replace hBw : Below w.heap.size w w4 := belowThru (by (repeat' first | (with_reducible exact Below.refl _ _) | (with_reducible assumption) | (with_reducible refine belowThru ?_ (by assumption)) | (with_reducible refine belowAlloc ?_))) hb
  have hzw4 := hBw.size
  clear hb
  go_wp2_with fail
  refine (HV.out _ (HR.out.later (by (repeat' first | (with_reducible exact Below.refl _ _) | (with_reducible assumption) | (with_reducible refine belowThru ?_ (by assumption)) | (with_reducible refine belowAlloc ?_))))).mono ?_
  rintro e w5 ⟨rfl, hb⟩
  have kn0 : Blk w5 (w2.heap.size) #[.int .i64 r1, .int .i64 r2, .int .i64 r3, .int .i64 r4] 30 := Blk.later hb (by (repeat' first | (with_reducible assumption) | ((with_reducible refine Blk.new ?_); first | rfl | (simp; done)) | (with_reducible refine Blk.alloc ?_)))
  have kn1 : Blk w5 (w3.heap.size) #[.int .i64 f1, .int .i64 f2, .int .i64 f3, .int .i64 f4] 30 := Blk.later hb (by (repeat' first | (with_reducible assumption) | ((with_reducible refine Blk.new ?_); first | rfl | (simp; done)) | (with_reducible refine Blk.alloc ?_)))
  have kn2 : Blk w5 (w4.heap.size) #[.int .i64 d1, .int .i64 d2, .int .i64 d3, .int .i64 d4] 30 := Blk.later hb (by (repeat' first | (with_reducible assumption) | ((with_reducible refine Blk.new ?_); first | rfl | (simp; done)) | (with_reducible refine Blk.alloc ?_)))
  clear k0 a0 b0 y0
  clear k1 a1 b1 y1
  have k0 := kn0; clear kn0; obtain ⟨a0, b0⟩ := k0.read; have y0 := k0.lt
  have k1 := kn1; clear kn1; obtain ⟨a1, b1⟩ := k1.read; have y1 := k1.lt
  have k2 := kn2; clear kn2; obtain ⟨a2, b2⟩ := k2.read; have y2 := k2.lt
  replace hBw : Below w.heap.size w w5 := belowThru (by (repeat' first | (with_reducible exact Below.refl _ _) | (with_reducible assumption) | (with_reducible refine belowThru ?_ (by assumption)) | (with_reducible refine belowAlloc ?_))) hb
  have hzw5 := hBw.size
  clear hb
  go_wp2_with fail
  refine (HAL.out _ (HR.out.later (by (repeat' first | (with_reducible exact Below.refl _ _) | (with_reducible assumption) | (with_reducible refine belowThru ?_ (by assumption)) | (with_reducible refine belowAlloc ?_)))) (HR2.out.later (by (repeat' first | (with_reducible exact Below.refl _ _) | (with_reducible assumption) | (with_reducible refine belowThru ?_ (by assumption)) | (with_reducible refine belowAlloc ?_))))).mono ?_
  rintro e w6 ⟨v, c', rfl, hRow, hb⟩
  have HQ := Lib.hid hRow
  clear hRow
  have kn0 : Blk w6 (w2.heap.size) #[.int .i64 r1, .int .i64 r2, .int .i64 r3, .int .i64 r4] 30 := Blk.later hb (by (repeat' first | (with_reducible assumption) | ((with_reducible refine Blk.new ?_); first | rfl | (simp; done)) | (with_reducible refine Blk.alloc ?_)))
  have kn1 : Blk w6 (w3.heap.size) #[.int .i64 f1, .int .i64 f2, .int .i64 f3, .int .i64 f4] 30 := Blk.later hb (by (repeat' first | (with_reducible assumption) | ((with_reducible refine Blk.new ?_); first | rfl | (simp; done)) | (with_reducible refine Blk.alloc ?_)))
  have kn2 : Blk w6 (w4.heap.size) #[.int .i64 d1, .int .i64 d2, .int .i64 d3, .int .i64 d4] 30 := Blk.later hb (by (repeat' first | (with_reducible assumption) | ((with_reducible refine Blk.new ?_); first | rfl | (simp; done)) | (with_reducible refine Blk.alloc ?_)))
  clear k0 a0 b0 y0
  clear k1 a1 b1 y1
  clear k2 a2 b2 y2
  have k0 := kn0; clear kn0; obtain ⟨a0, b0⟩ := k0.read; have y0 := k0.lt
  have k1 := kn1; clear kn1; obtain ⟨a1, b1⟩ := k1.read; have y1 := k1.lt
  have k2 := kn2; clear kn2; obtain ⟨a2, b2⟩ := k2.read; have y2 := k2.lt
  replace hBw : Below w.heap.size w w6 := belowThru (by (repeat' first | (with_reducible exact Below.refl _ _) | (with_reducible assumption) | (with_reducible refine belowThru ?_ (by assumption)) | (with_reducible refine belowAlloc ?_))) hb
  have hzw6 := hBw.size
  clear hb
  have hb1 : Below w6.heap.size w6 w6 := Below.refl _ _
  go_wp2_with fail
  refine (HRV.out _ _ _ (HQ.out.later (by (repeat' first | (with_reducible exact Below.refl _ _) | (with_reducible assumption) | (with_reducible refine belowThru ?_ (by assumption)) | (with_reducible refine belowAlloc ?_))))).mono ?_
  rintro e w7 ⟨v', c'', rfl, hRow, hb⟩
  have HB := Lib.hid hRow
  clear hRow
  replace hb1 : Below w6.heap.size w6 w7 := belowThru (by (repeat' first | (with_reducible exact Below.refl _ _) | (with_reducible assumption) | (with_reducible refine belowThru ?_ (by assumption)) | (with_reducible refine belowAlloc ?_))) hb
  have kn0 : Blk w7 (w2.heap.size) #[.int .i64 r1, .int .i64 r2, .int .i64 r3, .int .i64 r4] 30 := Blk.later hb (by (repeat' first | (with_reducible assumption) | ((with_reducible refine Blk.new ?_); first | rfl | (simp; done)) | (with_reducible refine Blk.alloc ?_)))
  have kn1 : Blk w7 (w3.heap.size) #[.int .i64 f1, .int .i64 f2, .int .i64 f3, .int .i64 f4] 30 := Blk.later hb (by (repeat' first | (with_reducible assumption) | ((with_reducible refine Blk.new ?_); first | rfl | (simp; done)) | (with_reducible refine Blk.alloc ?_)))
  have kn2 : Blk w7 (w4.heap.size) #[.int .i64 d1, .int .i64 d2, .int .i64 d3, .int .i64 d4] 30 := Blk.later hb (by (repeat' first | (with_reducible assumption) | ((with_reducible refine Blk.new ?_); first | rfl | (simp; done)) | (with_reducible refine Blk.alloc ?_)))
  clear k0 a0 b0 y0
  clear k1 a1 b1 y1
  clear k2 a2 b2 y2
  have k0 := kn0; clear kn0; obtain ⟨a0, b0⟩ := k0.read; have y0 := k0.lt
  have k1 := kn1; clear kn1; obtain ⟨a1, b1⟩ := k1.read; have y1 := k1.lt
  have k2 := kn2; clear kn2; obtain ⟨a2, b2⟩ := k2.read; have y2 := k2.lt
  replace hBw : Below w.heap.size w w7 := belowThru (by (repeat' first | (with_reducible exact Below.refl _ _) | (with_reducible assumption) | (with_reducible refine belowThru ?_ (by assumption)) | (with_reducible refine belowAlloc ?_))) hb
  have hzw7 := hBw.size
  clear hb
  have hb2 : Below w7.heap.size w7 w7 := Below.refl _ _
  go_wp2_with fail
  refine (HA.out _ _ _ (HQ.out.later (by (repeat' first | (with_reducible exact Below.refl _ _) | (with_reducible assumption) | (with_reducible refine belowThru ?_ (by assumption)) | (with_reducible refine belowAlloc ?_))))).mono ?_
  rintro e w8 ⟨rfl, hb⟩
  replace hb1 : Below w6.heap.size w6 w8 := belowThru (by (repeat' first | (with_reducible exact Below.refl _ _) | (with_reducible assumption) | (with_reducible refine belowThru ?_ (by assumption)) | (with_reducible refine belowAlloc ?_))) hb
  replace hb2 : Below w7.heap.size w7 w8 := belowThru (by (repeat' first | (with_reducible exact Below.refl _ _) | (with_reducible assumption) | (with_reducible refine belowThru ?_ (by assumption)) | (with_reducible refine belowAlloc ?_))) hb
  have kn0 : Blk w8 (w2.heap.size) #[.int .i64 r1, .int .i64 r2, .int .i64 r3, .int .i64 r4] 30 := Blk.later hb (by (repeat' first | (with_reducible assumption) | ((with_reducible refine Blk.new ?_); first | rfl | (simp; done)) | (with_reducible refine Blk.alloc ?_)))
  have kn1 : Blk w8 (w3.heap.size) #[.int .i64 f1, .int .i64 f2, .int .i64 f3, .int .i64 f4] 30 := Blk.later hb (by (repeat' first | (with_reducible assumption) | ((with_reducible refine Blk.new ?_); first | rfl | (simp; done)) | (with_reducible refine Blk.alloc ?_)))
  have kn2 : Blk w8 (w4.heap.size) #[.int .i64 d1, .int .i64 d2, .int .i64 d3, .int .i64 d4] 30 := Blk.later hb (by (repeat' first | (with_reducible assumption) | ((with_reducible refine Blk.new ?_); first | rfl | (simp; done)) | (with_reducible refine Blk.alloc ?_)))
  clear k0 a0 b0 y0
  clear k1 a1 b1 y1
  clear k2 a2 b2 y2
  have k0 := kn0; clear kn0; obtain ⟨a0, b0⟩ := k0.read; have y0 := k0.lt
  have k1 := kn1; clear kn1; obtain ⟨a1, b1⟩ := k1.read; have y1 := k1.lt
  have k2 := kn2; clear kn2; obtain ⟨a2, b2⟩ := k2.read; have y2 := k2.lt
  replace hBw : Below w.heap.size w w8 := belowThru (by (repeat' first | (with_reducible exact Below.refl _ _) | (with_reducible assumption) | (with_reducible refine belowThru ?_ (by assumption)) | (with_reducible refine belowAlloc ?_))) hb
  have hzw8 := hBw.size
  clear hb
  go_wp2_with fail
  refine (HC.out _ _ _ (HB.out.later (by (repeat' first | (with_reducible exact Below.refl _ _) | (with_reducible assumption) | (with_reducible refine belowThru ?_ (by assumption)) | (with_reducible refine belowAlloc ?_))))).mono ?_
  rintro e w9 ⟨rfl, hb⟩
  replace hb1 : Below w6.heap.size w6 w9 := belowThru (by (repeat' first | (with_reducible exact Below.refl _ _) | (with_reducible assumption) | (with_reducible refine belowThru ?_ (by assumption)) | (with_reducible refine belowAlloc ?_))) hb
  replace hb2 : Below w7.heap.size w7 w9 := belowThru (by (repeat' first | (with_reducible exact Below.refl _ _) | (with_reducible assumption) | (with_reducible refine belowThru ?_ (by assumption)) | (with_reducible refine belowAlloc ?_))) hb
  have kn0 : Blk w9 (w2.heap.size) #[.int .i64 r1, .int .i64 r2, .int .i64 r3, .int .i64 r4] 30 := Blk.later hb (by (repeat' first | (with_reducible assumption) | ((with_reducible refine Blk.new ?_); first | rfl | (simp; done)) | (with_reducible refine Blk.alloc ?_)))
  have kn1 : Blk w9 (w3.heap.size) #[.int .i64 f1, .int .i64 f2, .int .i64 f3, .int .i64 f4] 30 := Blk.later hb (by (repeat' first | (with_reducible assumption) | ((with_reducible refine Blk.new ?_); first | rfl | (simp; done)) | (with_reducible refine Blk.alloc ?_)))
  have kn2 : Blk w9 (w4.heap.size) #[.int .i64 d1, .int .i64 d2, .int .i64 d3, .int .i64 d4] 30 := Blk.later hb (by (repeat' first | (with_reducible assumption) | ((with_reducible refine Blk.new ?_); first | rfl | (simp; done)) | (with_reducible refine Blk.alloc ?_)))
  clear k0 a0 b0 y0
  clear k1 a1 b1 y1
  clear k2 a2 b2 y2
  have k0 := kn0; clear kn0; obtain ⟨a0, b0⟩ := k0.read; have y0 := k0.lt
  have k1 := kn1; clear kn1; obtain ⟨a1, b1⟩ := k1.read; have y1 := k1.lt
  have k2 := kn2; clear kn2; obtain ⟨a2, b2⟩ := k2.read; have y2 := k2.lt
  replace hBw : Below w.heap.size w w9 := belowThru (by (repeat' first | (with_reducible exact Below.refl _ _) | (with_reducible assumption) | (with_reducible refine belowThru ?_ (by assumption)) | (with_reducible refine belowAlloc ?_))) hb
  have hzw9 := hBw.size
  clear hb
  go_wp2_with fail
  refine (HD.out _ _ _ (HQ.out.later (by (repeat' first | (with_reducible exact Below.refl _ _) | (with_reducible assumption) | (with_reducible refine belowThru ?_ (by assumption)) | (with_reducible refine belowAlloc ?_))))).mono ?_
  rintro e w10 ⟨rfl, hb⟩
  replace hb1 : Below w6.heap.size w6 w10 := belowThru (by (repeat' first | (with_reducible exact Below.refl _ _) | (with_reducible assumption) | (with_reducible refine belowThru ?_ (by assumption)) | (with_reducible refine belowAlloc ?_))) hb
  replace hb2 : Below w7.heap.size w7 w10 := belowThru (by (repeat' first | (with_reducible exact Below.refl _ _) | (with_reducible assumption) | (with_reducible refine belowThru ?_ (by assumption)) | (with_reducible refine belowAlloc ?_))) hb
  have kn0 : Blk w10 (w2.heap.size) #[.int .i64 r1, .int .i64 r2, .int .i64 r3, .int .i64 r4] 30 := Blk.later hb (by (repeat' first | (with_reducible assumption) | ((with_reducible refine Blk.new ?_); first | rfl | (simp; done)) | (with_reducible refine Blk.alloc ?_)))
  have kn1 : Blk w10 (w3.heap.size) #[.int .i64 f1, .int .i64 f2, .int .i64 f3, .int .i64 f4] 30 := Blk.later hb (by (repeat' first | (with_reducible assumption) | ((with_reducible refine Blk.new ?_); first | rfl | (simp; done)) | (with_reducible refine Blk.alloc ?_)))
  have kn2 : Blk w10 (w4.heap.size) #[.int .i64 d1, .int .i64 d2, .int .i64 d3, .int .i64 d4] 30 := Blk.later hb (by (repeat' first | (with_reducible assumption) | ((with_reducible refine Blk.new ?_); first | rfl | (simp; done)) | (with_reducible refine Blk.alloc ?_)))
  clear k0 a0 b0 y0
  clear k1 a1 b1 y1
  clear k2 a2 b2 y2
  have k0 := kn0; clear kn0; obtain ⟨a0, b0⟩ := k0.read; have y0 := k0.lt
  have k1 := kn1; clear kn1; obtain ⟨a1, b1⟩ := k1.read; have y1 := k1.lt
  have k2 := kn2; clear kn2; obtain ⟨a2, b2⟩ := k2.read; have y2 := k2.lt
  replace hBw : Below w.heap.size w w10 := belowThru (by (repeat' first | (with_reducible exact Below.refl _ _) | (with_reducible assumption) | (with_reducible refine belowThru ?_ (by assumption)) | (with_reducible refine belowAlloc ?_))) hb
  have hzw10 := hBw.size
  clear hb
  go_wp2_with fail
  refine (HF.out _ _ _ (HB.out.later (by (repeat' first | (with_reducible exact Below.refl _ _) | (with_reducible assumption) | (with_reducible refine belowThru ?_ (by assumption)) | (with_reducible refine belowAlloc ?_))))).mono ?_
  rintro e w11 ⟨rfl, hb⟩
  replace hb1 : Below w6.heap.size w6 w11 := belowThru (by (repeat' first | (with_reducible exact Below.refl _ _) | (with_reducible assumption) | (with_reducible refine belowThru ?_ (by assumption)) | (with_reducible refine belowAlloc ?_))) hb
  replace hb2 : Below w7.heap.size w7 w11 := belowThru (by (repeat' first | (with_reducible exact Below.refl _ _) | (with_reducible assumption) | (with_reducible refine belowThru ?_ (by assumption)) | (with_reducible refine belowAlloc ?_))) hb
  have kn0 : Blk w11 (w2.heap.size) #[.int .i64 r1, .int .i64 r2, .int .i64 r3, .int .i64 r4] 30 := Blk.later hb (by (repeat' first | (with_reducible assumption) | ((with_reducible refine Blk.new ?_); first | rfl | (simp; done)) | (with_reducible refine Blk.alloc ?_)))
  have kn1 : Blk w11 (w3.heap.size) #[.int .i64 f1, .int .i64 f2, .int .i64 f3, .int .i64 f4] 30 := Blk.later hb (by (repeat' first | (with_reducible assumption) | ((with_reducible refine Blk.new ?_); first | rfl | (simp; done)) | (with_reducible refine Blk.alloc ?_)))
  have kn2 : Blk w11 (w4.heap.size) #[.int .i64 d1, .int .i64 d2, .int .i64 d3, .int .i64 d4] 30 := Blk.later hb (by (repeat' first | (with_reducible assumption) | ((with_reducible refine Blk.new ?_); first | rfl | (simp; done)) | (with_reducible refine Blk.alloc ?_)))
  clear k0 a0 b0 y0
  clear k1 a1 b1 y1
  clear k2 a2 b2 y2
  have k0 := kn0; clear kn0; obtain ⟨a0, b0⟩ := k0.read; have y0 := k0.lt
  have k1 := kn1; clear kn1; obtain ⟨a1, b1⟩ := k1.read; have y1 := k1.lt
  have k2 := kn2; clear kn2; obtain ⟨a2, b2⟩ := k2.read; have y2 := k2.lt
  replace hBw : Below w.heap.size w w11 := belowThru (by (repeat' first | (with_reducible exact Below.refl _ _) | (with_reducible assumption) | (with_reducible refine belowThru ?_ (by assumption)) | (with_reducible refine belowAlloc ?_))) hb
  have hzw11 := hBw.size
  clear hb
  go_wp2_with fail
  go_ret
  exact ⟨rfl, by (repeat' first | (with_reducible exact Below.refl _ _) | (with_reducible assumption) | (with_reducible refine belowThru ?_ (by assumption)) | (with_reducible refine belowAlloc ?_))⟩
end Go.Proofs.Ytbcgebobfnclnaa
