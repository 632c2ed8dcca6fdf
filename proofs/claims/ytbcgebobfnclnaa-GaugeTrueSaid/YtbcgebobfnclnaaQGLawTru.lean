/-
  The law GaugeTrue: the walk.
-/
import Derived.Test.YtbcgebobfnclnaaM1
import Derived.Test.YtbcgebobfnclnaaM2
import Derived.Test.YtbcgebobfnclnaaM3
import Derived.Test.YtbcgebobfnclnaaM4
import Derived.Test.YtbcgebobfnclnaaM5
import Derived.Test.YtbcgebobfnclnaaM6
import Derived.Test.YtbcgebobfnclnaaM7
import Derived.Test.YtbcgebobfnclnaaM8
import Derived.Test.YtbcgebobfnclnaaM9
namespace Go.Proofs.Ytbcgebobfnclnaa
open Go.RowKit Go.Shelf
set_option linter.unusedVariables false
set_option linter.unusedSimpArgs false

theorem hold1T {w : World} {b0 : Nat} {c0 : Array Value} {t0 : TypeId} {D0 E G : Prop} (h : (Blk w b0 c0 t0 ∧ D0) ∧ E) (g : Blk w b0 c0 t0 → E → G) : G := g h.1.1 h.2
theorem zcases (a b c d : Int) : ¬ a = 0 ∨ (a = 0 ∧ ¬ b = 1) ∨ (a = 0 ∧ b = 1 ∧ ¬ c = 0) ∨ (a = 0 ∧ b = 1 ∧ c = 0 ∧ ¬ d = 1) ∨ (a = 0 ∧ b = 1 ∧ c = 0 ∧ d = 1) := by omega
set_option maxRecDepth 100000 in
set_option maxHeartbeats 16000000 in
theorem true_long (t nz s1 s2 s3 s4 l1 l2 h1 h2 : Int) (a : Option Addr) (n c : Nat) (zs : List Int) (a2 : Option Addr) (m2 c2 : Nat) (ms : List Int) (hb0 : Bool) (w : World) (hR : Row w a n (iv zs)) (hR2 : Row w a2 m2 (hv ms)) (hn : n ≤ maxLen) (hl : 64 < n) :
    Calls Try.prog 13 #[.agg #[.int .i64 t, .int .i64 nz, .int .i64 s1, .int .i64 s2, .int .i64 s3, .int .i64 s4, .int .i64 l1, .int .i64 l2, .int .i64 h1, .int .i64 h2], .slice a n c, .slice a2 m2 c2, .bool hb0] w fun e w' => e = .returned (.bool true) ∧ Below w.heap.size w w' := by
  have hd : decide (64 < (n : Int)) = true := by simp; omega
  unfold maxLen at hn
  have hmx : Try.prog.follows .mixedOrders = true := by kernel_rfl
  have HR := Lib.hid hR
  clear hR
  have HR2 := Lib.hid hR2
  clear hR2
  go_enter Try.func13, Try.ntmps13
  go_wp2_with fail
  refine (alive_true _).mono ?_
  rintro e w1 ⟨rfl, hb⟩
  have kn0 : Blk w1 (w.heap.size) #[.int .i64 t, .int .i64 nz, .int .i64 s1, .int .i64 s2, .int .i64 s3, .int .i64 s4, .int .i64 l1, .int .i64 l2, .int .i64 h1, .int .i64 h2] 41 := Blk.later hb (by (repeat' first | (with_reducible assumption) | ((with_reducible refine Blk.new ?_); first | rfl | (simp; done)) | (with_reducible refine Blk.alloc ?_)))
  have k0 := kn0; clear kn0; obtain ⟨a0, b0⟩ := k0.read; have y0 := k0.lt
  have hBw : Below w.heap.size w w1 := by (repeat' (first | (with_reducible exact Below.refl _ _) | (with_reducible assumption) | (with_reducible refine belowThru ?_ (by assumption)) | (with_reducible refine belowAlloc ?_) | (with_reducible refine Below.setCell ?_ (by first | omega | (simp; done) | (simp; omega)) _) | (with_reducible refine Below.drew ?_) | (with_reducible refine below_drewN ?_ _)))
  have hzw1 := hBw.size
  clear hb
  go_wp2_with fail
  go_ret
  exact ⟨rfl, by (repeat' (first | (with_reducible exact Below.refl _ _) | (with_reducible assumption) | (with_reducible refine belowThru ?_ (by assumption)) | (with_reducible refine belowAlloc ?_) | (with_reducible refine Below.setCell ?_ (by first | omega | (simp; done) | (simp; omega)) _) | (with_reducible refine Below.drew ?_) | (with_reducible refine below_drewN ?_ _)))⟩
set_option maxRecDepth 100000 in
set_option maxHeartbeats 16000000 in
theorem true_badg (t nz s1 s2 s3 s4 l1 l2 h1 h2 : Int) (a : Option Addr) (n c : Nat) (zs : List Int) (a2 : Option Addr) (m2 c2 : Nat) (ms : List Int) (hb0 : Bool) (w : World) (hR : Row w a n (iv zs)) (hR2 : Row w a2 m2 (hv ms)) (hl : n ≤ 64) (Z1 Z2 Z3 Z4 V E : Int) (hE : (E != 0) = true) (HM : Hid (∀ w : World, Row w a n (iv zs) → Calls Try.prog 27 #[.agg #[.int .i64 t, .int .i64 nz, .int .i64 s1, .int .i64 s2, .int .i64 s3, .int .i64 s4, .int .i64 l1, .int .i64 l2, .int .i64 h1, .int .i64 h2], .slice a n c] w fun e w' => e = .returned (.tuple #[.agg #[.int .i64 Z1, .int .i64 Z2, .int .i64 Z3, .int .i64 Z4], .int .u8 V, .int .i64 E]) ∧ Below w.heap.size w w')) (HG : Hid (∀ w : World, Calls Try.prog 56 #[.agg #[.int .i64 t, .int .i64 nz, .int .i64 s1, .int .i64 s2, .int .i64 s3, .int .i64 s4, .int .i64 l1, .int .i64 l2, .int .i64 h1, .int .i64 h2]] w fun e w' => e = .returned (.bool false) ∧ Below w.heap.size w w'))  :
    Calls Try.prog 13 #[.agg #[.int .i64 t, .int .i64 nz, .int .i64 s1, .int .i64 s2, .int .i64 s3, .int .i64 s4, .int .i64 l1, .int .i64 l2, .int .i64 h1, .int .i64 h2], .slice a n c, .slice a2 m2 c2, .bool hb0] w fun e w' => e = .returned (.bool true) ∧ Below w.heap.size w w' := by
  have hd : decide (64 < (n : Int)) = false := by simp; omega
  have hmx : Try.prog.follows .mixedOrders = true := by kernel_rfl
  have HR := Lib.hid hR
  clear hR
  have HR2 := Lib.hid hR2
  clear hR2
  go_enter Try.func13, Try.ntmps13
  go_wp2_with fail
  refine (alive_true _).mono ?_
  rintro e w1 ⟨rfl, hb⟩
  have kn0 : Blk w1 (w.heap.size) #[.int .i64 t, .int .i64 nz, .int .i64 s1, .int .i64 s2, .int .i64 s3, .int .i64 s4, .int .i64 l1, .int .i64 l2, .int .i64 h1, .int .i64 h2] 41 := Blk.later hb (by (repeat' first | (with_reducible assumption) | ((with_reducible refine Blk.new ?_); first | rfl | (simp; done)) | (with_reducible refine Blk.alloc ?_)))
  have k0 := kn0; clear kn0; obtain ⟨a0, b0⟩ := k0.read; have y0 := k0.lt
  have hBw : Below w.heap.size w w1 := by (repeat' (first | (with_reducible exact Below.refl _ _) | (with_reducible assumption) | (with_reducible refine belowThru ?_ (by assumption)) | (with_reducible refine belowAlloc ?_) | (with_reducible refine Below.setCell ?_ (by first | omega | (simp; done) | (simp; omega)) _) | (with_reducible refine Below.drew ?_) | (with_reducible refine below_drewN ?_ _)))
  have hzw1 := hBw.size
  clear hb
  go_wp2_with fail
  refine (HM.out _ (HR.out.later (by (repeat' first | (with_reducible exact Below.refl _ _) | (with_reducible assumption) | (with_reducible refine belowThru ?_ (by assumption)) | (with_reducible refine belowAlloc ?_))))).mono ?_
  rintro e w2 ⟨rfl, hb⟩
  have kn0 : Blk w2 (w.heap.size) #[.int .i64 t, .int .i64 nz, .int .i64 s1, .int .i64 s2, .int .i64 s3, .int .i64 s4, .int .i64 l1, .int .i64 l2, .int .i64 h1, .int .i64 h2] 41 := Blk.later hb (by (repeat' first | (with_reducible assumption) | ((with_reducible refine Blk.new ?_); first | rfl | (simp; done)) | (with_reducible refine Blk.alloc ?_)))
  clear k0 a0 b0 y0
  have k0 := kn0; clear kn0; obtain ⟨a0, b0⟩ := k0.read; have y0 := k0.lt
  replace hBw : Below w.heap.size w w2 := belowThru (by (repeat' (first | (with_reducible exact Below.refl _ _) | (with_reducible assumption) | (with_reducible refine belowThru ?_ (by assumption)) | (with_reducible refine belowAlloc ?_) | (with_reducible refine Below.setCell ?_ (by first | omega | (simp; done) | (simp; omega)) _) | (with_reducible refine Below.drew ?_) | (with_reducible refine below_drewN ?_ _)))) hb
  have hzw2 := hBw.size
  clear hb
  go_wp2_with fail
  refine (HG.out _).mono ?_
  rintro e w3 ⟨rfl, hb⟩
  have kn0 : Blk w3 (w.heap.size) #[.int .i64 t, .int .i64 nz, .int .i64 s1, .int .i64 s2, .int .i64 s3, .int .i64 s4, .int .i64 l1, .int .i64 l2, .int .i64 h1, .int .i64 h2] 41 := Blk.later hb (by (repeat' first | (with_reducible assumption) | ((with_reducible refine Blk.new ?_); first | rfl | (simp; done)) | (with_reducible refine Blk.alloc ?_)))
  have kn1 : Blk w3 (w2.heap.size) #[.int .i64 Z1, .int .i64 Z2, .int .i64 Z3, .int .i64 Z4] 30 := Blk.later hb (by (repeat' first | (with_reducible assumption) | ((with_reducible refine Blk.new ?_); first | rfl | (simp; done)) | (with_reducible refine Blk.alloc ?_)))
  clear k0 a0 b0 y0
  have k0 := kn0; clear kn0; obtain ⟨a0, b0⟩ := k0.read; have y0 := k0.lt
  have k1 := kn1; clear kn1; obtain ⟨a1, b1⟩ := k1.read; have y1 := k1.lt
  replace hBw : Below w.heap.size w w3 := belowThru (by (repeat' (first | (with_reducible exact Below.refl _ _) | (with_reducible assumption) | (with_reducible refine belowThru ?_ (by assumption)) | (with_reducible refine belowAlloc ?_) | (with_reducible refine Below.setCell ?_ (by first | omega | (simp; done) | (simp; omega)) _) | (with_reducible refine Below.drew ?_) | (with_reducible refine below_drewN ?_ _)))) hb
  have hzw3 := hBw.size
  clear hb
  go_wp2_with fail
  go_ret
  exact ⟨rfl, by (repeat' (first | (with_reducible exact Below.refl _ _) | (with_reducible assumption) | (with_reducible refine belowThru ?_ (by assumption)) | (with_reducible refine belowAlloc ?_) | (with_reducible refine Below.setCell ?_ (by first | omega | (simp; done) | (simp; omega)) _) | (with_reducible refine Below.drew ?_) | (with_reducible refine below_drewN ?_ _)))⟩
set_option maxRecDepth 100000 in
set_option maxHeartbeats 16000000 in
theorem true_badp (t nz s1 s2 s3 s4 l1 l2 h1 h2 : Int) (a : Option Addr) (n c : Nat) (zs : List Int) (a2 : Option Addr) (m2 c2 : Nat) (ms : List Int) (hb0 : Bool) (w : World) (hR : Row w a n (iv zs)) (hR2 : Row w a2 m2 (hv ms)) (hl : n ≤ 64) (Z1 Z2 Z3 Z4 V E : Int) (hE : (E != 0) = true) (HM : Hid (∀ w : World, Row w a n (iv zs) → Calls Try.prog 27 #[.agg #[.int .i64 t, .int .i64 nz, .int .i64 s1, .int .i64 s2, .int .i64 s3, .int .i64 s4, .int .i64 l1, .int .i64 l2, .int .i64 h1, .int .i64 h2], .slice a n c] w fun e w' => e = .returned (.tuple #[.agg #[.int .i64 Z1, .int .i64 Z2, .int .i64 Z3, .int .i64 Z4], .int .u8 V, .int .i64 E]) ∧ Below w.heap.size w w')) (HG : Hid (∀ w : World, Calls Try.prog 56 #[.agg #[.int .i64 t, .int .i64 nz, .int .i64 s1, .int .i64 s2, .int .i64 s3, .int .i64 s4, .int .i64 l1, .int .i64 l2, .int .i64 h1, .int .i64 h2]] w fun e w' => e = .returned (.bool true) ∧ Below w.heap.size w w')) (HV : Hid (∀ w : World, Row w a n (iv zs) → Calls Try.prog 51 #[.slice a n c] w fun e w' => e = .returned (.bool false) ∧ Below w.heap.size w w')) :
    Calls Try.prog 13 #[.agg #[.int .i64 t, .int .i64 nz, .int .i64 s1, .int .i64 s2, .int .i64 s3, .int .i64 s4, .int .i64 l1, .int .i64 l2, .int .i64 h1, .int .i64 h2], .slice a n c, .slice a2 m2 c2, .bool hb0] w fun e w' => e = .returned (.bool true) ∧ Below w.heap.size w w' := by
  have hd : decide (64 < (n : Int)) = false := by simp; omega
  have hmx : Try.prog.follows .mixedOrders = true := by kernel_rfl
  have HR := Lib.hid hR
  clear hR
  have HR2 := Lib.hid hR2
  clear hR2
  go_enter Try.func13, Try.ntmps13
  go_wp2_with fail
  refine (alive_true _).mono ?_
  rintro e w1 ⟨rfl, hb⟩
  have kn0 : Blk w1 (w.heap.size) #[.int .i64 t, .int .i64 nz, .int .i64 s1, .int .i64 s2, .int .i64 s3, .int .i64 s4, .int .i64 l1, .int .i64 l2, .int .i64 h1, .int .i64 h2] 41 := Blk.later hb (by (repeat' first | (with_reducible assumption) | ((with_reducible refine Blk.new ?_); first | rfl | (simp; done)) | (with_reducible refine Blk.alloc ?_)))
  have k0 := kn0; clear kn0; obtain ⟨a0, b0⟩ := k0.read; have y0 := k0.lt
  have hBw : Below w.heap.size w w1 := by (repeat' (first | (with_reducible exact Below.refl _ _) | (with_reducible assumption) | (with_reducible refine belowThru ?_ (by assumption)) | (with_reducible refine belowAlloc ?_) | (with_reducible refine Below.setCell ?_ (by first | omega | (simp; done) | (simp; omega)) _) | (with_reducible refine Below.drew ?_) | (with_reducible refine below_drewN ?_ _)))
  have hzw1 := hBw.size
  clear hb
  go_wp2_with fail
  refine (HM.out _ (HR.out.later (by (repeat' first | (with_reducible exact Below.refl _ _) | (with_reducible assumption) | (with_reducible refine belowThru ?_ (by assumption)) | (with_reducible refine belowAlloc ?_))))).mono ?_
  rintro e w2 ⟨rfl, hb⟩
  have kn0 : Blk w2 (w.heap.size) #[.int .i64 t, .int .i64 nz, .int .i64 s1, .int .i64 s2, .int .i64 s3, .int .i64 s4, .int .i64 l1, .int .i64 l2, .int .i64 h1, .int .i64 h2] 41 := Blk.later hb (by (repeat' first | (with_reducible assumption) | ((with_reducible refine Blk.new ?_); first | rfl | (simp; done)) | (with_reducible refine Blk.alloc ?_)))
  clear k0 a0 b0 y0
  have k0 := kn0; clear kn0; obtain ⟨a0, b0⟩ := k0.read; have y0 := k0.lt
  replace hBw : Below w.heap.size w w2 := belowThru (by (repeat' (first | (with_reducible exact Below.refl _ _) | (with_reducible assumption) | (with_reducible refine belowThru ?_ (by assumption)) | (with_reducible refine belowAlloc ?_) | (with_reducible refine Below.setCell ?_ (by first | omega | (simp; done) | (simp; omega)) _) | (with_reducible refine Below.drew ?_) | (with_reducible refine below_drewN ?_ _)))) hb
  have hzw2 := hBw.size
  clear hb
  go_wp2_with fail
  refine (HG.out _).mono ?_
  rintro e w3 ⟨rfl, hb⟩
  have kn0 : Blk w3 (w.heap.size) #[.int .i64 t, .int .i64 nz, .int .i64 s1, .int .i64 s2, .int .i64 s3, .int .i64 s4, .int .i64 l1, .int .i64 l2, .int .i64 h1, .int .i64 h2] 41 := Blk.later hb (by (repeat' first | (with_reducible assumption) | ((with_reducible refine Blk.new ?_); first | rfl | (simp; done)) | (with_reducible refine Blk.alloc ?_)))
  have kn1 : Blk w3 (w2.heap.size) #[.int .i64 Z1, .int .i64 Z2, .int .i64 Z3, .int .i64 Z4] 30 := Blk.later hb (by (repeat' first | (with_reducible assumption) | ((with_reducible refine Blk.new ?_); first | rfl | (simp; done)) | (with_reducible refine Blk.alloc ?_)))
  clear k0 a0 b0 y0
  have k0 := kn0; clear kn0; obtain ⟨a0, b0⟩ := k0.read; have y0 := k0.lt
  have k1 := kn1; clear kn1; obtain ⟨a1, b1⟩ := k1.read; have y1 := k1.lt
  replace hBw : Below w.heap.size w w3 := belowThru (by (repeat' (first | (with_reducible exact Below.refl _ _) | (with_reducible assumption) | (with_reducible refine belowThru ?_ (by assumption)) | (with_reducible refine belowAlloc ?_) | (with_reducible refine Below.setCell ?_ (by first | omega | (simp; done) | (simp; omega)) _) | (with_reducible refine Below.drew ?_) | (with_reducible refine below_drewN ?_ _)))) hb
  have hzw3 := hBw.size
  clear hb
  go_wp2_with fail
  refine (HV.out _ (HR.out.later (by (repeat' first | (with_reducible exact Below.refl _ _) | (with_reducible assumption) | (with_reducible refine belowThru ?_ (by assumption)) | (with_reducible refine belowAlloc ?_))))).mono ?_
  rintro e w4 ⟨rfl, hb⟩
  have kn0 : Blk w4 (w.heap.size) #[.int .i64 t, .int .i64 nz, .int .i64 s1, .int .i64 s2, .int .i64 s3, .int .i64 s4, .int .i64 l1, .int .i64 l2, .int .i64 h1, .int .i64 h2] 41 := Blk.later hb (by (repeat' first | (with_reducible assumption) | ((with_reducible refine Blk.new ?_); first | rfl | (simp; done)) | (with_reducible refine Blk.alloc ?_)))
  have kn1 : Blk w4 (w2.heap.size) #[.int .i64 Z1, .int .i64 Z2, .int .i64 Z3, .int .i64 Z4] 30 := Blk.later hb (by (repeat' first | (with_reducible assumption) | ((with_reducible refine Blk.new ?_); first | rfl | (simp; done)) | (with_reducible refine Blk.alloc ?_)))
  clear k0 a0 b0 y0
  clear k1 a1 b1 y1
  have k0 := kn0; clear kn0; obtain ⟨a0, b0⟩ := k0.read; have y0 := k0.lt
  have k1 := kn1; clear kn1; obtain ⟨a1, b1⟩ := k1.read; have y1 := k1.lt
  replace hBw : Below w.heap.size w w4 := belowThru (by (repeat' (first | (with_reducible exact Below.refl _ _) | (with_reducible assumption) | (with_reducible refine belowThru ?_ (by assumption)) | (with_reducible refine belowAlloc ?_) | (with_reducible refine Below.setCell ?_ (by first | omega | (simp; done) | (simp; omega)) _) | (with_reducible refine Below.drew ?_) | (with_reducible refine below_drewN ?_ _)))) hb
  have hzw4 := hBw.size
  clear hb
  go_wp2_with fail
  go_ret
  exact ⟨rfl, by (repeat' (first | (with_reducible exact Below.refl _ _) | (with_reducible assumption) | (with_reducible refine belowThru ?_ (by assumption)) | (with_reducible refine belowAlloc ?_) | (with_reducible refine Below.setCell ?_ (by first | omega | (simp; done) | (simp; omega)) _) | (with_reducible refine Below.drew ?_) | (with_reducible refine below_drewN ?_ _)))⟩
set_option maxRecDepth 100000 in
set_option maxHeartbeats 16000000 in
theorem true_no2 (t nz s1 s2 s3 s4 l1 l2 h1 h2 : Int) (a : Option Addr) (n c : Nat) (zs : List Int) (a2 : Option Addr) (m2 c2 : Nat) (ms : List Int) (hb0 : Bool) (w : World) (hR : Row w a n (iv zs)) (hR2 : Row w a2 m2 (hv ms)) (hl : n ≤ 64) (L K : List Int) (B : Bool) (Z1 Z2 Z3 Z4 T A1 A2 C1 C2 : Int) (hT : IntKind.i64.wrap (4 * t) = T) (HM : Hid (∀ w : World, Row w a n (iv zs) → Calls Try.prog 27 #[.agg #[.int .i64 t, .int .i64 nz, .int .i64 s1, .int .i64 s2, .int .i64 s3, .int .i64 s4, .int .i64 l1, .int .i64 l2, .int .i64 h1, .int .i64 h2], .slice a n c] w fun e w' => e = .returned (.tuple #[.agg #[.int .i64 Z1, .int .i64 Z2, .int .i64 Z3, .int .i64 Z4], .int .u8 2, .int .i64 0]) ∧ Below w.heap.size w w')) (HG : Hid (∀ w : World, Calls Try.prog 56 #[.agg #[.int .i64 t, .int .i64 nz, .int .i64 s1, .int .i64 s2, .int .i64 s3, .int .i64 s4, .int .i64 l1, .int .i64 l2, .int .i64 h1, .int .i64 h2]] w fun e w' => e = .returned (.bool true) ∧ Below w.heap.size w w')) (HV : Hid (∀ w : World, Row w a n (iv zs) → Calls Try.prog 51 #[.slice a n c] w fun e w' => e = .returned (.bool true) ∧ Below w.heap.size w w')) (HAL : Hid (∀ w : World, Row w a n (iv zs) → Row w a2 m2 (hv ms) → Calls Try.prog 52 #[.slice a n c, .slice a2 m2 c2, .int .i64 nz] w fun e w' => ∃ v c', e = .returned (.slice v n c') ∧ Row w' v n (iv L) ∧ Below w.heap.size w w')) (HRV : Hid (∀ (v : Option Addr) (c : Nat) (w : World), Row w v n (iv L) → Calls Try.prog 49 #[.slice v n c] w fun e w' => ∃ v' c', e = .returned (.slice v' n c') ∧ Row w' v' n (iv K) ∧ Below w.heap.size w w')) (HA : Hid (∀ (v : Option Addr) (c : Nat) (w : World), Row w v n (iv L) → Calls Try.prog 53 #[.slice v n c, .int .i64 T, .int .i64 0] w fun e w' => e = .returned (.tuple #[.int .i64 A1, .int .i64 A2, .bool false]) ∧ Below w.heap.size w w')) (HC : Hid (∀ (v : Option Addr) (c : Nat) (w : World), Row w v n (iv K) → Calls Try.prog 53 #[.slice v n c, .int .i64 T, .int .i64 0] w fun e w' => e = .returned (.tuple #[.int .i64 C1, .int .i64 C2, .bool B]) ∧ Below w.heap.size w w')) :
    Calls Try.prog 13 #[.agg #[.int .i64 t, .int .i64 nz, .int .i64 s1, .int .i64 s2, .int .i64 s3, .int .i64 s4, .int .i64 l1, .int .i64 l2, .int .i64 h1, .int .i64 h2], .slice a n c, .slice a2 m2 c2, .bool hb0] w fun e w' => e = .returned (.bool true) ∧ Below w.heap.size w w' := by
  have hd : decide (64 < (n : Int)) = false := by simp; omega
  have hmx : Try.prog.follows .mixedOrders = true := by kernel_rfl
  have HR := Lib.hid hR
  clear hR
  have HR2 := Lib.hid hR2
  clear hR2
  go_enter Try.func13, Try.ntmps13
  go_wp2_with fail
  refine (alive_true _).mono ?_
  rintro e w1 ⟨rfl, hb⟩
  have kn0 : Blk w1 (w.heap.size) #[.int .i64 t, .int .i64 nz, .int .i64 s1, .int .i64 s2, .int .i64 s3, .int .i64 s4, .int .i64 l1, .int .i64 l2, .int .i64 h1, .int .i64 h2] 41 := Blk.later hb (by (repeat' first | (with_reducible assumption) | ((with_reducible refine Blk.new ?_); first | rfl | (simp; done)) | (with_reducible refine Blk.alloc ?_)))
  have k0 := kn0; clear kn0; obtain ⟨a0, b0⟩ := k0.read; have y0 := k0.lt
  have hBw : Below w.heap.size w w1 := by (repeat' first | (with_reducible exact Below.refl _ _) | (with_reducible assumption) | (with_reducible refine belowThru ?_ (by assumption)) | (with_reducible refine belowAlloc ?_))
  have hzw1 := hBw.size
  clear hb
  go_wp2_with fail
  refine (HM.out _ (HR.out.later (by (repeat' first | (with_reducible exact Below.refl _ _) | (with_reducible assumption) | (with_reducible refine belowThru ?_ (by assumption)) | (with_reducible refine belowAlloc ?_))))).mono ?_
  rintro e w2 ⟨rfl, hb⟩
  have kn0 : Blk w2 (w.heap.size) #[.int .i64 t, .int .i64 nz, .int .i64 s1, .int .i64 s2, .int .i64 s3, .int .i64 s4, .int .i64 l1, .int .i64 l2, .int .i64 h1, .int .i64 h2] 41 := Blk.later hb (by (repeat' first | (with_reducible assumption) | ((with_reducible refine Blk.new ?_); first | rfl | (simp; done)) | (with_reducible refine Blk.alloc ?_)))
  clear k0 a0 b0 y0
  have k0 := kn0; clear kn0; obtain ⟨a0, b0⟩ := k0.read; have y0 := k0.lt
  replace hBw : Below w.heap.size w w2 := belowThru (by (repeat' first | (with_reducible exact Below.refl _ _) | (with_reducible assumption) | (with_reducible refine belowThru ?_ (by assumption)) | (with_reducible refine belowAlloc ?_))) hb
  have hzw2 := hBw.size
  clear hb
  go_wp2_with fail
  refine (HG.out _).mono ?_
  rintro e w3 ⟨rfl, hb⟩
  have kn0 : Blk w3 (w.heap.size) #[.int .i64 t, .int .i64 nz, .int .i64 s1, .int .i64 s2, .int .i64 s3, .int .i64 s4, .int .i64 l1, .int .i64 l2, .int .i64 h1, .int .i64 h2] 41 := Blk.later hb (by (repeat' first | (with_reducible assumption) | ((with_reducible refine Blk.new ?_); first | rfl | (simp; done)) | (with_reducible refine Blk.alloc ?_)))
  have kn1 : Blk w3 (w2.heap.size) #[.int .i64 Z1, .int .i64 Z2, .int .i64 Z3, .int .i64 Z4] 30 := Blk.later hb (by (repeat' first | (with_reducible assumption) | ((with_reducible refine Blk.new ?_); first | rfl | (simp; done)) | (with_reducible refine Blk.alloc ?_)))
  clear k0 a0 b0 y0
  have k0 := kn0; clear kn0; obtain ⟨a0, b0⟩ := k0.read; have y0 := k0.lt
  have k1 := kn1; clear kn1; obtain ⟨a1, b1⟩ := k1.read; have y1 := k1.lt
  replace hBw : Below w.heap.size w w3 := belowThru (by (repeat' first | (with_reducible exact Below.refl _ _) | (with_reducible assumption) | (with_reducible refine belowThru ?_ (by assumption)) | (with_reducible refine belowAlloc ?_))) hb
  have hzw3 := hBw.size
  clear hb
  go_wp2_with fail
  refine (HV.out _ (HR.out.later (by (repeat' first | (with_reducible exact Below.refl _ _) | (with_reducible assumption) | (with_reducible refine belowThru ?_ (by assumption)) | (with_reducible refine belowAlloc ?_))))).mono ?_
  rintro e w4 ⟨rfl, hb⟩
  have kn0 : Blk w4 (w.heap.size) #[.int .i64 t, .int .i64 nz, .int .i64 s1, .int .i64 s2, .int .i64 s3, .int .i64 s4, .int .i64 l1, .int .i64 l2, .int .i64 h1, .int .i64 h2] 41 := Blk.later hb (by (repeat' first | (with_reducible assumption) | ((with_reducible refine Blk.new ?_); first | rfl | (simp; done)) | (with_reducible refine Blk.alloc ?_)))
  have kn1 : Blk w4 (w2.heap.size) #[.int .i64 Z1, .int .i64 Z2, .int .i64 Z3, .int .i64 Z4] 30 := Blk.later hb (by (repeat' first | (with_reducible assumption) | ((with_reducible refine Blk.new ?_); first | rfl | (simp; done)) | (with_reducible refine Blk.alloc ?_)))
  clear k0 a0 b0 y0
  clear k1 a1 b1 y1
  have k0 := kn0; clear kn0; obtain ⟨a0, b0⟩ := k0.read; have y0 := k0.lt
  have k1 := kn1; clear kn1; obtain ⟨a1, b1⟩ := k1.read; have y1 := k1.lt
  replace hBw : Below w.heap.size w w4 := belowThru (by (repeat' first | (with_reducible exact Below.refl _ _) | (with_reducible assumption) | (with_reducible refine belowThru ?_ (by assumption)) | (with_reducible refine belowAlloc ?_))) hb
  have hzw4 := hBw.size
  clear hb
  go_wp2_with fail
  refine (HAL.out _ (HR.out.later (by (repeat' first | (with_reducible exact Below.refl _ _) | (with_reducible assumption) | (with_reducible refine belowThru ?_ (by assumption)) | (with_reducible refine belowAlloc ?_)))) (HR2.out.later (by (repeat' first | (with_reducible exact Below.refl _ _) | (with_reducible assumption) | (with_reducible refine belowThru ?_ (by assumption)) | (with_reducible refine belowAlloc ?_))))).mono ?_
  rintro e w5 ⟨v, c', rfl, hRow, hb⟩
  have HQ := Lib.hid hRow
  clear hRow
  have kn0 : Blk w5 (w.heap.size) #[.int .i64 t, .int .i64 nz, .int .i64 s1, .int .i64 s2, .int .i64 s3, .int .i64 s4, .int .i64 l1, .int .i64 l2, .int .i64 h1, .int .i64 h2] 41 := Blk.later hb (by (repeat' first | (with_reducible assumption) | ((with_reducible refine Blk.new ?_); first | rfl | (simp; done)) | (with_reducible refine Blk.alloc ?_)))
  have kn1 : Blk w5 (w2.heap.size) #[.int .i64 Z1, .int .i64 Z2, .int .i64 Z3, .int .i64 Z4] 30 := Blk.later hb (by (repeat' first | (with_reducible assumption) | ((with_reducible refine Blk.new ?_); first | rfl | (simp; done)) | (with_reducible refine Blk.alloc ?_)))
  clear k0 a0 b0 y0
  clear k1 a1 b1 y1
  have k0 := kn0; clear kn0; obtain ⟨a0, b0⟩ := k0.read; have y0 := k0.lt
  have k1 := kn1; clear kn1; obtain ⟨a1, b1⟩ := k1.read; have y1 := k1.lt
  replace hBw : Below w.heap.size w w5 := belowThru (by (repeat' first | (with_reducible exact Below.refl _ _) | (with_reducible assumption) | (with_reducible refine belowThru ?_ (by assumption)) | (with_reducible refine belowAlloc ?_))) hb
  have hzw5 := hBw.size
  clear hb
  have hb1 : Below w5.heap.size w5 w5 := Below.refl _ _
  go_wp2_with fail
  refine (HA.out _ _ _ (HQ.out.later (by (repeat' first | (with_reducible exact Below.refl _ _) | (with_reducible assumption) | (with_reducible refine belowThru ?_ (by assumption)) | (with_reducible refine belowAlloc ?_))))).mono ?_
  rintro e w6 ⟨rfl, hb⟩
  replace hb1 : Below w5.heap.size w5 w6 := belowThru (by (repeat' first | (with_reducible exact Below.refl _ _) | (with_reducible assumption) | (with_reducible refine belowThru ?_ (by assumption)) | (with_reducible refine belowAlloc ?_))) hb
  have kn0 : Blk w6 (w.heap.size) #[.int .i64 t, .int .i64 nz, .int .i64 s1, .int .i64 s2, .int .i64 s3, .int .i64 s4, .int .i64 l1, .int .i64 l2, .int .i64 h1, .int .i64 h2] 41 := Blk.later hb (by (repeat' first | (with_reducible assumption) | ((with_reducible refine Blk.new ?_); first | rfl | (simp; done)) | (with_reducible refine Blk.alloc ?_)))
  have kn1 : Blk w6 (w2.heap.size) #[.int .i64 Z1, .int .i64 Z2, .int .i64 Z3, .int .i64 Z4] 30 := Blk.later hb (by (repeat' first | (with_reducible assumption) | ((with_reducible refine Blk.new ?_); first | rfl | (simp; done)) | (with_reducible refine Blk.alloc ?_)))
  clear k0 a0 b0 y0
  clear k1 a1 b1 y1
  have k0 := kn0; clear kn0; obtain ⟨a0, b0⟩ := k0.read; have y0 := k0.lt
  have k1 := kn1; clear kn1; obtain ⟨a1, b1⟩ := k1.read; have y1 := k1.lt
  replace hBw : Below w.heap.size w w6 := belowThru (by (repeat' first | (with_reducible exact Below.refl _ _) | (with_reducible assumption) | (with_reducible refine belowThru ?_ (by assumption)) | (with_reducible refine belowAlloc ?_))) hb
  have hzw6 := hBw.size
  clear hb
  go_wp2_with fail
  obtain ⟨Wp, rfl⟩ : ∃ Wp, Wp = w6 := ⟨_, rfl⟩
  clear a0 b0 y0; have y0 := k0.lt
  clear a1 b1 y1; have y1 := k1.lt
  refine wp_region_held_drew (S := fun w' => (Blk w' (w.heap.size) #[.int .i64 t, .int .i64 nz, .int .i64 s1, .int .i64 s2, .int .i64 s3, .int .i64 s4, .int .i64 l1, .int .i64 l2, .int .i64 h1, .int .i64 h2] 41 ∧ (∀ i : Nat, w'.cell? ⟨w.heap.size, i, none⟩ = (#[.int .i64 t, .int .i64 nz, .int .i64 s1, .int .i64 s2, .int .i64 s3, .int .i64 s4, .int .i64 l1, .int .i64 l2, .int .i64 h1, .int .i64 h2] : Array Value)[i]?)) ∧ Below w.heap.size w w') hmx ⟨k0.drew.full, hBw.drew⟩ (fun hHeld => ?_)
  obtain ⟨Wd, hWd⟩ : ∃ Wd, Wp.drew = Wd := ⟨_, rfl⟩
  have q0 : Blk Wd (w.heap.size) #[.int .i64 t, .int .i64 nz, .int .i64 s1, .int .i64 s2, .int .i64 s3, .int .i64 s4, .int .i64 l1, .int .i64 l2, .int .i64 h1, .int .i64 h2] 41 := by rw [← hWd]; exact k0.drew
  have q1 : Blk Wd (w2.heap.size) #[.int .i64 Z1, .int .i64 Z2, .int .i64 Z3, .int .i64 Z4] 30 := by rw [← hWd]; exact k1.drew
  have hBd : Below w.heap.size w Wd := by rw [← hWd]; exact hBw.drew
  have hb1d : Below w5.heap.size w5 Wd := by rw [← hWd]; exact hb1.drew
  rw [hWd] at hHeld ⊢
  clear hWd k0 k1 y0 y1 hBw hb1
  refine wpAnyH_take (i := 0) (v := ?_) rfl (by kernel_rfl) (by kernel_rfl) (by kernel_rfl) (fun _ _ _ h => h) (Or.inl ⟨by rfl, ?hT0⟩) (by assumption) ?_
  case hT0 => ((intro w hSw; (try dsimp only at hSw); go_simp); try (with_reducible rfl))
  try simp only [Act.put, List.setIfInBounds_toArray, List.set_cons_zero, List.set_cons_succ]
  refine wpAnyH_take (i := 2) (v := ?_) rfl (by kernel_rfl) (by kernel_rfl) (by kernel_rfl) (fun _ _ _ h => h) (Or.inl ⟨by rfl, ?hT1⟩) (by assumption) ?_
  case hT1 => ((intro w hSw; (try dsimp only at hSw); go_simp); try (with_reducible rfl))
  try simp only [Act.put, List.setIfInBounds_toArray, List.set_cons_zero, List.set_cons_succ]
  refine wpAnyH_take (i := 3) (v := ?_) rfl (by kernel_rfl) (by kernel_rfl) (by kernel_rfl) (fun _ _ _ h => h) (Or.inl ⟨by rfl, ?hT2⟩) (by assumption) ?_
  case hT2 => ((intro w hSw; (try dsimp only at hSw); go_simp); try (with_reducible rfl))
  try simp only [Act.put, List.setIfInBounds_toArray, List.set_cons_zero, List.set_cons_succ]
  refine wpAnyH_take (i := 4) (v := ?_) rfl (by kernel_rfl) (by kernel_rfl) (by kernel_rfl) (fun _ _ _ h => h) (Or.inl ⟨by rfl, ?hT3⟩) (by assumption) ?_
  case hT3 => ((intro w hSw; (try dsimp only at hSw); go_simp); try (with_reducible rfl))
  try simp only [Act.put, List.setIfInBounds_toArray, List.set_cons_zero, List.set_cons_succ]
  refine wpAnyH_ready (rs := [1]) (by kernel_rfl) (by simp) ?_
  refine AllReadyH.cons rfl (fun K hK => ?_) AllReadyH.nil
  go_simp
  refine (HRV.out _ _ _ (HQ.out.later hb1d)).mono ?_
  rintro e w7 ⟨v', c'', rfl, hRow, hb⟩
  have HB := Lib.hid hRow
  clear hRow
  have k0 := Blk.later hb q0; have k1 := Blk.later hb q1; have hBw : Below w.heap.size w w7 := belowThru hBd hb
  clear q0 q1 hBd hb1d hb
  try go_simp
  refine hK.out _ _ ?_ (fun hHeldN => ?_)
  · (try dsimp only); exact ⟨k0.full, hBw⟩
  clear hK K hHeld
  have hHeld := hHeldN
  clear hHeldN
  try simp only [Act.put, List.setIfInBounds_toArray, List.set_cons_zero, List.set_cons_succ]
  refine wpAnyH_ready (rs := [5]) (by kernel_rfl) (by simp) ?_
  refine AllReadyH.cons rfl (fun K hK => ?_) AllReadyH.nil
  go_simp
  refine (HC.out _ _ _ HB.out).mono ?_
  rintro e w8 ⟨rfl, hb⟩
  replace k0 := Blk.later hb k0; replace k1 := Blk.later hb k1; replace hBw : Below w.heap.size w w8 := belowThru hBw hb
  clear hb
  try go_simp
  refine hK.out _ _ ?_ (fun hHeldN => ?_)
  · (try dsimp only); exact ⟨k0.full, hBw⟩
  clear hK K hHeld
  have hHeld := hHeldN
  clear hHeldN
  try simp only [Act.put, List.setIfInBounds_toArray, List.set_cons_zero, List.set_cons_succ]
  refine wpAnyH_take (i := 6) (v := ?_) rfl (by kernel_rfl) (by kernel_rfl) (by kernel_rfl) (fun _ _ _ h => h) (Or.inl ⟨by rfl, ?hT4⟩) (by assumption) ?_
  case hT4 => ((intro w hSw; (try dsimp only at hSw); go_simp); try (with_reducible rfl))
  try simp only [Act.put, List.setIfInBounds_toArray, List.set_cons_zero, List.set_cons_succ]
  refine wpAnyH_take (i := 7) (v := ?_) rfl (by kernel_rfl) (by kernel_rfl) (by kernel_rfl) (fun _ _ _ h => h) (Or.inl ⟨by rfl, ?hT5⟩) (by assumption) ?_
  case hT5 => ((intro w hSw; (try dsimp only at hSw); go_simp); try (with_reducible rfl))
  try simp only [Act.put, List.setIfInBounds_toArray, List.set_cons_zero, List.set_cons_succ]
  refine wpAnyH_take (i := 8) (v := ?_) rfl (by kernel_rfl) (by kernel_rfl) (by kernel_rfl) (fun _ _ _ h => h) (Or.inl ⟨by rfl, ?hT6⟩) (by assumption) ?_
  case hT6 => ((intro w hSw; (try dsimp only at hSw); go_simp); try (with_reducible rfl))
  try simp only [Act.put, List.setIfInBounds_toArray, List.set_cons_zero, List.set_cons_succ]
  refine wpAnyH_take (i := 9) (v := ?_) rfl (by kernel_rfl) (by kernel_rfl) (by kernel_rfl) (fun _ _ _ h => h) (Or.inl ⟨by rfl, ?hT7⟩) (by assumption) ?_
  case hT7 => ((intro w hSw; (try dsimp only at hSw); go_simp); try (with_reducible rfl))
  try simp only [Act.put, List.setIfInBounds_toArray, List.set_cons_zero, List.set_cons_succ]
  refine wpAnyH_ready (rs := [10]) (by kernel_rfl) (by simp) ?_
  refine AllReadyH.cons rfl (fun K hK => ?_) AllReadyH.nil
  go_simp
  refine hK.out _ _ ?_ (fun hHeldN => ?_)
  · (try dsimp only); exact ⟨k0.full, hBw⟩
  clear hK K hHeld
  have hHeld := hHeldN
  clear hHeldN
  try simp only [Act.put, List.setIfInBounds_toArray, List.set_cons_zero, List.set_cons_succ]
  refine wpAnyH_ready (rs := [11]) (by kernel_rfl) (by simp) ?_
  refine AllReadyH.cons rfl (fun K hK => ?_) AllReadyH.nil
  go_simp
  refine hK.out _ _ ?_ (fun hHeldN => ?_)
  · (try dsimp only); exact ⟨k0.full, hBw⟩
  clear hK K hHeld
  have hHeld := hHeldN
  clear hHeldN
  try simp only [Act.put, List.setIfInBounds_toArray, List.set_cons_zero, List.set_cons_succ]
  refine wpAnyH_ready (rs := [12]) (by kernel_rfl) (by simp) ?_
  refine AllReadyH.cons rfl (fun K hK => ?_) AllReadyH.nil
  go_simp
  refine hK.out _ _ ?_ (fun hHeldN => ?_)
  · (try dsimp only); exact ⟨k0.full, hBw⟩
  clear hK K hHeld
  have hHeld := hHeldN
  clear hHeldN
  try simp only [Act.put, List.setIfInBounds_toArray, List.set_cons_zero, List.set_cons_succ]
  refine wpAnyH_done (by kernel_rfl) ?_ _
  obtain ⟨a0, b0⟩ := k0.read; have y0 := k0.lt
  obtain ⟨a1, b1⟩ := k1.read; have y1 := k1.lt
  have hzw8 := hBw.size
  go_wp2_with fail
  go_ret
  exact ⟨rfl, by (repeat' first | (with_reducible exact Below.refl _ _) | (with_reducible assumption) | (with_reducible refine belowThru ?_ (by assumption)) | (with_reducible refine belowAlloc ?_))⟩
set_option maxRecDepth 100000 in
set_option maxHeartbeats 16000000 in
theorem true_no3 (t nz s1 s2 s3 s4 l1 l2 h1 h2 : Int) (a : Option Addr) (n c : Nat) (zs : List Int) (a2 : Option Addr) (m2 c2 : Nat) (ms : List Int) (hb0 : Bool) (w : World) (hR : Row w a n (iv zs)) (hR2 : Row w a2 m2 (hv ms)) (hl : n ≤ 64) (L K : List Int) (B : Bool) (Z1 Z2 Z3 Z4 T A1 A2 C1 C2 : Int) (hT : IntKind.i64.wrap (4 * t) = T) (HM : Hid (∀ w : World, Row w a n (iv zs) → Calls Try.prog 27 #[.agg #[.int .i64 t, .int .i64 nz, .int .i64 s1, .int .i64 s2, .int .i64 s3, .int .i64 s4, .int .i64 l1, .int .i64 l2, .int .i64 h1, .int .i64 h2], .slice a n c] w fun e w' => e = .returned (.tuple #[.agg #[.int .i64 Z1, .int .i64 Z2, .int .i64 Z3, .int .i64 Z4], .int .u8 3, .int .i64 0]) ∧ Below w.heap.size w w')) (HG : Hid (∀ w : World, Calls Try.prog 56 #[.agg #[.int .i64 t, .int .i64 nz, .int .i64 s1, .int .i64 s2, .int .i64 s3, .int .i64 s4, .int .i64 l1, .int .i64 l2, .int .i64 h1, .int .i64 h2]] w fun e w' => e = .returned (.bool true) ∧ Below w.heap.size w w')) (HV : Hid (∀ w : World, Row w a n (iv zs) → Calls Try.prog 51 #[.slice a n c] w fun e w' => e = .returned (.bool true) ∧ Below w.heap.size w w')) (HAL : Hid (∀ w : World, Row w a n (iv zs) → Row w a2 m2 (hv ms) → Calls Try.prog 52 #[.slice a n c, .slice a2 m2 c2, .int .i64 nz] w fun e w' => ∃ v c', e = .returned (.slice v n c') ∧ Row w' v n (iv L) ∧ Below w.heap.size w w')) (HRV : Hid (∀ (v : Option Addr) (c : Nat) (w : World), Row w v n (iv L) → Calls Try.prog 49 #[.slice v n c] w fun e w' => ∃ v' c', e = .returned (.slice v' n c') ∧ Row w' v' n (iv K) ∧ Below w.heap.size w w')) (HA : Hid (∀ (v : Option Addr) (c : Nat) (w : World), Row w v n (iv L) → Calls Try.prog 53 #[.slice v n c, .int .i64 T, .int .i64 0] w fun e w' => e = .returned (.tuple #[.int .i64 A1, .int .i64 A2, .bool false]) ∧ Below w.heap.size w w')) (HC : Hid (∀ (v : Option Addr) (c : Nat) (w : World), Row w v n (iv K) → Calls Try.prog 53 #[.slice v n c, .int .i64 T, .int .i64 0] w fun e w' => e = .returned (.tuple #[.int .i64 C1, .int .i64 C2, .bool B]) ∧ Below w.heap.size w w')) :
    Calls Try.prog 13 #[.agg #[.int .i64 t, .int .i64 nz, .int .i64 s1, .int .i64 s2, .int .i64 s3, .int .i64 s4, .int .i64 l1, .int .i64 l2, .int .i64 h1, .int .i64 h2], .slice a n c, .slice a2 m2 c2, .bool hb0] w fun e w' => e = .returned (.bool true) ∧ Below w.heap.size w w' := by
  have hd : decide (64 < (n : Int)) = false := by simp; omega
  have hmx : Try.prog.follows .mixedOrders = true := by kernel_rfl
  have HR := Lib.hid hR
  clear hR
  have HR2 := Lib.hid hR2
  clear hR2
  go_enter Try.func13, Try.ntmps13
  go_wp2_with fail
  refine (alive_true _).mono ?_
  rintro e w1 ⟨rfl, hb⟩
  have kn0 : Blk w1 (w.heap.size) #[.int .i64 t, .int .i64 nz, .int .i64 s1, .int .i64 s2, .int .i64 s3, .int .i64 s4, .int .i64 l1, .int .i64 l2, .int .i64 h1, .int .i64 h2] 41 := Blk.later hb (by (repeat' first | (with_reducible assumption) | ((with_reducible refine Blk.new ?_); first | rfl | (simp; done)) | (with_reducible refine Blk.alloc ?_)))
  have k0 := kn0; clear kn0; obtain ⟨a0, b0⟩ := k0.read; have y0 := k0.lt
  have hBw : Below w.heap.size w w1 := by (repeat' first | (with_reducible exact Below.refl _ _) | (with_reducible assumption) | (with_reducible refine belowThru ?_ (by assumption)) | (with_reducible refine belowAlloc ?_))
  have hzw1 := hBw.size
  clear hb
  go_wp2_with fail
  refine (HM.out _ (HR.out.later (by (repeat' first | (with_reducible exact Below.refl _ _) | (with_reducible assumption) | (with_reducible refine belowThru ?_ (by assumption)) | (with_reducible refine belowAlloc ?_))))).mono ?_
  rintro e w2 ⟨rfl, hb⟩
  have kn0 : Blk w2 (w.heap.size) #[.int .i64 t, .int .i64 nz, .int .i64 s1, .int .i64 s2, .int .i64 s3, .int .i64 s4, .int .i64 l1, .int .i64 l2, .int .i64 h1, .int .i64 h2] 41 := Blk.later hb (by (repeat' first | (with_reducible assumption) | ((with_reducible refine Blk.new ?_); first | rfl | (simp; done)) | (with_reducible refine Blk.alloc ?_)))
  clear k0 a0 b0 y0
  have k0 := kn0; clear kn0; obtain ⟨a0, b0⟩ := k0.read; have y0 := k0.lt
  replace hBw : Below w.heap.size w w2 := belowThru (by (repeat' first | (with_reducible exact Below.refl _ _) | (with_reducible assumption) | (with_reducible refine belowThru ?_ (by assumption)) | (with_reducible refine belowAlloc ?_))) hb
  have hzw2 := hBw.size
  clear hb
  go_wp2_with fail
  refine (HG.out _).mono ?_
  rintro e w3 ⟨rfl, hb⟩
  have kn0 : Blk w3 (w.heap.size) #[.int .i64 t, .int .i64 nz, .int .i64 s1, .int .i64 s2, .int .i64 s3, .int .i64 s4, .int .i64 l1, .int .i64 l2, .int .i64 h1, .int .i64 h2] 41 := Blk.later hb (by (repeat' first | (with_reducible assumption) | ((with_reducible refine Blk.new ?_); first | rfl | (simp; done)) | (with_reducible refine Blk.alloc ?_)))
  have kn1 : Blk w3 (w2.heap.size) #[.int .i64 Z1, .int .i64 Z2, .int .i64 Z3, .int .i64 Z4] 30 := Blk.later hb (by (repeat' first | (with_reducible assumption) | ((with_reducible refine Blk.new ?_); first | rfl | (simp; done)) | (with_reducible refine Blk.alloc ?_)))
  clear k0 a0 b0 y0
  have k0 := kn0; clear kn0; obtain ⟨a0, b0⟩ := k0.read; have y0 := k0.lt
  have k1 := kn1; clear kn1; obtain ⟨a1, b1⟩ := k1.read; have y1 := k1.lt
  replace hBw : Below w.heap.size w w3 := belowThru (by (repeat' first | (with_reducible exact Below.refl _ _) | (with_reducible assumption) | (with_reducible refine belowThru ?_ (by assumption)) | (with_reducible refine belowAlloc ?_))) hb
  have hzw3 := hBw.size
  clear hb
  go_wp2_with fail
  refine (HV.out _ (HR.out.later (by (repeat' first | (with_reducible exact Below.refl _ _) | (with_reducible assumption) | (with_reducible refine belowThru ?_ (by assumption)) | (with_reducible refine belowAlloc ?_))))).mono ?_
  rintro e w4 ⟨rfl, hb⟩
  have kn0 : Blk w4 (w.heap.size) #[.int .i64 t, .int .i64 nz, .int .i64 s1, .int .i64 s2, .int .i64 s3, .int .i64 s4, .int .i64 l1, .int .i64 l2, .int .i64 h1, .int .i64 h2] 41 := Blk.later hb (by (repeat' first | (with_reducible assumption) | ((with_reducible refine Blk.new ?_); first | rfl | (simp; done)) | (with_reducible refine Blk.alloc ?_)))
  have kn1 : Blk w4 (w2.heap.size) #[.int .i64 Z1, .int .i64 Z2, .int .i64 Z3, .int .i64 Z4] 30 := Blk.later hb (by (repeat' first | (with_reducible assumption) | ((with_reducible refine Blk.new ?_); first | rfl | (simp; done)) | (with_reducible refine Blk.alloc ?_)))
  clear k0 a0 b0 y0
  clear k1 a1 b1 y1
  have k0 := kn0; clear kn0; obtain ⟨a0, b0⟩ := k0.read; have y0 := k0.lt
  have k1 := kn1; clear kn1; obtain ⟨a1, b1⟩ := k1.read; have y1 := k1.lt
  replace hBw : Below w.heap.size w w4 := belowThru (by (repeat' first | (with_reducible exact Below.refl _ _) | (with_reducible assumption) | (with_reducible refine belowThru ?_ (by assumption)) | (with_reducible refine belowAlloc ?_))) hb
  have hzw4 := hBw.size
  clear hb
  go_wp2_with fail
  refine (HAL.out _ (HR.out.later (by (repeat' first | (with_reducible exact Below.refl _ _) | (with_reducible assumption) | (with_reducible refine belowThru ?_ (by assumption)) | (with_reducible refine belowAlloc ?_)))) (HR2.out.later (by (repeat' first | (with_reducible exact Below.refl _ _) | (with_reducible assumption) | (with_reducible refine belowThru ?_ (by assumption)) | (with_reducible refine belowAlloc ?_))))).mono ?_
  rintro e w5 ⟨v, c', rfl, hRow, hb⟩
  have HQ := Lib.hid hRow
  clear hRow
  have kn0 : Blk w5 (w.heap.size) #[.int .i64 t, .int .i64 nz, .int .i64 s1, .int .i64 s2, .int .i64 s3, .int .i64 s4, .int .i64 l1, .int .i64 l2, .int .i64 h1, .int .i64 h2] 41 := Blk.later hb (by (repeat' first | (with_reducible assumption) | ((with_reducible refine Blk.new ?_); first | rfl | (simp; done)) | (with_reducible refine Blk.alloc ?_)))
  have kn1 : Blk w5 (w2.heap.size) #[.int .i64 Z1, .int .i64 Z2, .int .i64 Z3, .int .i64 Z4] 30 := Blk.later hb (by (repeat' first | (with_reducible assumption) | ((with_reducible refine Blk.new ?_); first | rfl | (simp; done)) | (with_reducible refine Blk.alloc ?_)))
  clear k0 a0 b0 y0
  clear k1 a1 b1 y1
  have k0 := kn0; clear kn0; obtain ⟨a0, b0⟩ := k0.read; have y0 := k0.lt
  have k1 := kn1; clear kn1; obtain ⟨a1, b1⟩ := k1.read; have y1 := k1.lt
  replace hBw : Below w.heap.size w w5 := belowThru (by (repeat' first | (with_reducible exact Below.refl _ _) | (with_reducible assumption) | (with_reducible refine belowThru ?_ (by assumption)) | (with_reducible refine belowAlloc ?_))) hb
  have hzw5 := hBw.size
  clear hb
  have hb1 : Below w5.heap.size w5 w5 := Below.refl _ _
  go_wp2_with fail
  refine (HA.out _ _ _ (HQ.out.later (by (repeat' first | (with_reducible exact Below.refl _ _) | (with_reducible assumption) | (with_reducible refine belowThru ?_ (by assumption)) | (with_reducible refine belowAlloc ?_))))).mono ?_
  rintro e w6 ⟨rfl, hb⟩
  replace hb1 : Below w5.heap.size w5 w6 := belowThru (by (repeat' first | (with_reducible exact Below.refl _ _) | (with_reducible assumption) | (with_reducible refine belowThru ?_ (by assumption)) | (with_reducible refine belowAlloc ?_))) hb
  have kn0 : Blk w6 (w.heap.size) #[.int .i64 t, .int .i64 nz, .int .i64 s1, .int .i64 s2, .int .i64 s3, .int .i64 s4, .int .i64 l1, .int .i64 l2, .int .i64 h1, .int .i64 h2] 41 := Blk.later hb (by (repeat' first | (with_reducible assumption) | ((with_reducible refine Blk.new ?_); first | rfl | (simp; done)) | (with_reducible refine Blk.alloc ?_)))
  have kn1 : Blk w6 (w2.heap.size) #[.int .i64 Z1, .int .i64 Z2, .int .i64 Z3, .int .i64 Z4] 30 := Blk.later hb (by (repeat' first | (with_reducible assumption) | ((with_reducible refine Blk.new ?_); first | rfl | (simp; done)) | (with_reducible refine Blk.alloc ?_)))
  clear k0 a0 b0 y0
  clear k1 a1 b1 y1
  have k0 := kn0; clear kn0; obtain ⟨a0, b0⟩ := k0.read; have y0 := k0.lt
  have k1 := kn1; clear kn1; obtain ⟨a1, b1⟩ := k1.read; have y1 := k1.lt
  replace hBw : Below w.heap.size w w6 := belowThru (by (repeat' first | (with_reducible exact Below.refl _ _) | (with_reducible assumption) | (with_reducible refine belowThru ?_ (by assumption)) | (with_reducible refine belowAlloc ?_))) hb
  have hzw6 := hBw.size
  clear hb
  go_wp2_with fail
  obtain ⟨Wp, rfl⟩ : ∃ Wp, Wp = w6 := ⟨_, rfl⟩
  clear a0 b0 y0; have y0 := k0.lt
  clear a1 b1 y1; have y1 := k1.lt
  refine wp_region_held_drew (S := fun w' => (Blk w' (w.heap.size) #[.int .i64 t, .int .i64 nz, .int .i64 s1, .int .i64 s2, .int .i64 s3, .int .i64 s4, .int .i64 l1, .int .i64 l2, .int .i64 h1, .int .i64 h2] 41 ∧ (∀ i : Nat, w'.cell? ⟨w.heap.size, i, none⟩ = (#[.int .i64 t, .int .i64 nz, .int .i64 s1, .int .i64 s2, .int .i64 s3, .int .i64 s4, .int .i64 l1, .int .i64 l2, .int .i64 h1, .int .i64 h2] : Array Value)[i]?)) ∧ Below w.heap.size w w') hmx ⟨k0.drew.full, hBw.drew⟩ (fun hHeld => ?_)
  obtain ⟨Wd, hWd⟩ : ∃ Wd, Wp.drew = Wd := ⟨_, rfl⟩
  have q0 : Blk Wd (w.heap.size) #[.int .i64 t, .int .i64 nz, .int .i64 s1, .int .i64 s2, .int .i64 s3, .int .i64 s4, .int .i64 l1, .int .i64 l2, .int .i64 h1, .int .i64 h2] 41 := by rw [← hWd]; exact k0.drew
  have q1 : Blk Wd (w2.heap.size) #[.int .i64 Z1, .int .i64 Z2, .int .i64 Z3, .int .i64 Z4] 30 := by rw [← hWd]; exact k1.drew
  have hBd : Below w.heap.size w Wd := by rw [← hWd]; exact hBw.drew
  have hb1d : Below w5.heap.size w5 Wd := by rw [← hWd]; exact hb1.drew
  rw [hWd] at hHeld ⊢
  clear hWd k0 k1 y0 y1 hBw hb1
  refine wpAnyH_take (i := 0) (v := ?_) rfl (by kernel_rfl) (by kernel_rfl) (by kernel_rfl) (fun _ _ _ h => h) (Or.inl ⟨by rfl, ?hT8⟩) (by assumption) ?_
  case hT8 => ((intro w hSw; (try dsimp only at hSw); go_simp); try (with_reducible rfl))
  try simp only [Act.put, List.setIfInBounds_toArray, List.set_cons_zero, List.set_cons_succ]
  refine wpAnyH_take (i := 2) (v := ?_) rfl (by kernel_rfl) (by kernel_rfl) (by kernel_rfl) (fun _ _ _ h => h) (Or.inl ⟨by rfl, ?hT9⟩) (by assumption) ?_
  case hT9 => ((intro w hSw; (try dsimp only at hSw); go_simp); try (with_reducible rfl))
  try simp only [Act.put, List.setIfInBounds_toArray, List.set_cons_zero, List.set_cons_succ]
  refine wpAnyH_take (i := 3) (v := ?_) rfl (by kernel_rfl) (by kernel_rfl) (by kernel_rfl) (fun _ _ _ h => h) (Or.inl ⟨by rfl, ?hT10⟩) (by assumption) ?_
  case hT10 => ((intro w hSw; (try dsimp only at hSw); go_simp); try (with_reducible rfl))
  try simp only [Act.put, List.setIfInBounds_toArray, List.set_cons_zero, List.set_cons_succ]
  refine wpAnyH_take (i := 4) (v := ?_) rfl (by kernel_rfl) (by kernel_rfl) (by kernel_rfl) (fun _ _ _ h => h) (Or.inl ⟨by rfl, ?hT11⟩) (by assumption) ?_
  case hT11 => ((intro w hSw; (try dsimp only at hSw); go_simp); try (with_reducible rfl))
  try simp only [Act.put, List.setIfInBounds_toArray, List.set_cons_zero, List.set_cons_succ]
  refine wpAnyH_ready (rs := [1]) (by kernel_rfl) (by simp) ?_
  refine AllReadyH.cons rfl (fun K hK => ?_) AllReadyH.nil
  go_simp
  refine (HRV.out _ _ _ (HQ.out.later hb1d)).mono ?_
  rintro e w7 ⟨v', c'', rfl, hRow, hb⟩
  have HB := Lib.hid hRow
  clear hRow
  have k0 := Blk.later hb q0; have k1 := Blk.later hb q1; have hBw : Below w.heap.size w w7 := belowThru hBd hb
  clear q0 q1 hBd hb1d hb
  try go_simp
  refine hK.out _ _ ?_ (fun hHeldN => ?_)
  · (try dsimp only); exact ⟨k0.full, hBw⟩
  clear hK K hHeld
  have hHeld := hHeldN
  clear hHeldN
  try simp only [Act.put, List.setIfInBounds_toArray, List.set_cons_zero, List.set_cons_succ]
  refine wpAnyH_ready (rs := [5]) (by kernel_rfl) (by simp) ?_
  refine AllReadyH.cons rfl (fun K hK => ?_) AllReadyH.nil
  go_simp
  refine (HC.out _ _ _ HB.out).mono ?_
  rintro e w8 ⟨rfl, hb⟩
  replace k0 := Blk.later hb k0; replace k1 := Blk.later hb k1; replace hBw : Below w.heap.size w w8 := belowThru hBw hb
  clear hb
  try go_simp
  refine hK.out _ _ ?_ (fun hHeldN => ?_)
  · (try dsimp only); exact ⟨k0.full, hBw⟩
  clear hK K hHeld
  have hHeld := hHeldN
  clear hHeldN
  try simp only [Act.put, List.setIfInBounds_toArray, List.set_cons_zero, List.set_cons_succ]
  refine wpAnyH_take (i := 6) (v := ?_) rfl (by kernel_rfl) (by kernel_rfl) (by kernel_rfl) (fun _ _ _ h => h) (Or.inl ⟨by rfl, ?hT12⟩) (by assumption) ?_
  case hT12 => ((intro w hSw; (try dsimp only at hSw); go_simp); try (with_reducible rfl))
  try simp only [Act.put, List.setIfInBounds_toArray, List.set_cons_zero, List.set_cons_succ]
  refine wpAnyH_take (i := 7) (v := ?_) rfl (by kernel_rfl) (by kernel_rfl) (by kernel_rfl) (fun _ _ _ h => h) (Or.inl ⟨by rfl, ?hT13⟩) (by assumption) ?_
  case hT13 => ((intro w hSw; (try dsimp only at hSw); go_simp); try (with_reducible rfl))
  try simp only [Act.put, List.setIfInBounds_toArray, List.set_cons_zero, List.set_cons_succ]
  refine wpAnyH_take (i := 8) (v := ?_) rfl (by kernel_rfl) (by kernel_rfl) (by kernel_rfl) (fun _ _ _ h => h) (Or.inl ⟨by rfl, ?hT14⟩) (by assumption) ?_
  case hT14 => ((intro w hSw; (try dsimp only at hSw); go_simp); try (with_reducible rfl))
  try simp only [Act.put, List.setIfInBounds_toArray, List.set_cons_zero, List.set_cons_succ]
  refine wpAnyH_take (i := 9) (v := ?_) rfl (by kernel_rfl) (by kernel_rfl) (by kernel_rfl) (fun _ _ _ h => h) (Or.inl ⟨by rfl, ?hT15⟩) (by assumption) ?_
  case hT15 => ((intro w hSw; (try dsimp only at hSw); go_simp); try (with_reducible rfl))
  try simp only [Act.put, List.setIfInBounds_toArray, List.set_cons_zero, List.set_cons_succ]
  refine wpAnyH_ready (rs := [10]) (by kernel_rfl) (by simp) ?_
  refine AllReadyH.cons rfl (fun K hK => ?_) AllReadyH.nil
  go_simp
  refine hK.out _ _ ?_ (fun hHeldN => ?_)
  · (try dsimp only); exact ⟨k0.full, hBw⟩
  clear hK K hHeld
  have hHeld := hHeldN
  clear hHeldN
  try simp only [Act.put, List.setIfInBounds_toArray, List.set_cons_zero, List.set_cons_succ]
  refine wpAnyH_ready (rs := [11]) (by kernel_rfl) (by simp) ?_
  refine AllReadyH.cons rfl (fun K hK => ?_) AllReadyH.nil
  go_simp
  refine hK.out _ _ ?_ (fun hHeldN => ?_)
  · (try dsimp only); exact ⟨k0.full, hBw⟩
  clear hK K hHeld
  have hHeld := hHeldN
  clear hHeldN
  try simp only [Act.put, List.setIfInBounds_toArray, List.set_cons_zero, List.set_cons_succ]
  refine wpAnyH_ready (rs := [12]) (by kernel_rfl) (by simp) ?_
  refine AllReadyH.cons rfl (fun K hK => ?_) AllReadyH.nil
  go_simp
  refine hK.out _ _ ?_ (fun hHeldN => ?_)
  · (try dsimp only); exact ⟨k0.full, hBw⟩
  clear hK K hHeld
  have hHeld := hHeldN
  clear hHeldN
  try simp only [Act.put, List.setIfInBounds_toArray, List.set_cons_zero, List.set_cons_succ]
  refine wpAnyH_done (by kernel_rfl) ?_ _
  obtain ⟨a0, b0⟩ := k0.read; have y0 := k0.lt
  obtain ⟨a1, b1⟩ := k1.read; have y1 := k1.lt
  have hzw8 := hBw.size
  go_wp2_with fail
  go_ret
  exact ⟨rfl, by (repeat' first | (with_reducible exact Below.refl _ _) | (with_reducible assumption) | (with_reducible refine belowThru ?_ (by assumption)) | (with_reducible refine belowAlloc ?_))⟩
end Go.Proofs.Ytbcgebobfnclnaa
