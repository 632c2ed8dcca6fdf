/-
  The law GaugeBright: the walk.
-/
import Derived.Deep.QuietTactic
import Derived.Test.YtbcgebobfnclnaaM1
import Derived.Test.YtbcgebobfnclnaaM2
import Derived.Test.YtbcgebobfnclnaaM3
import Derived.Test.YtbcgebobfnclnaaM4
import Derived.Test.YtbcgebobfnclnaaM5
import Derived.Test.YtbcgebobfnclnaaM6
import Derived.Test.YtbcgebobfnclnaaM7
import Derived.Test.YtbcgebobfnclnaaM8
namespace Go.Proofs.Ytbcgebobfnclnaa
open Go.RowKit Go.Shelf
set_option linter.unusedVariables false
set_option linter.unusedSimpArgs false

theorem hold1B {w : World} {b0 : Nat} {c0 : Array Value} {t0 : TypeId} {D0 E G : Prop} (h : (Blk w b0 c0 t0 ∧ D0) ∧ E) (g : Blk w b0 c0 t0 → E → G) : G := g h.1.1 h.2
set_option maxRecDepth 100000 in
set_option maxHeartbeats 16000000 in
theorem bright_at (a : Option Addr) (n c : Nat) (zs : List Int) (t : Int) (p : Nat) (w : World) (hR : Row w a n (iv zs)) (z : Int) (hz : zs[p]? = some z) (hz1 : t ≤ z) (hl : n ≤ 100) (hpn : p < n) (HX : Hid (∀ w : World, Row w a n (iv zs) → Calls Try.prog 17 #[.slice a n c, .int .i64 t, .int .i64 (p : Int)] w fun e w' => e = .returned (.tuple #[.agg #[.int .i64 (p : Int), .int .i64 1], .int .i64 0]) ∧ Below w.heap.size w w')) (HF : Hid (∀ w : World, Calls Try.prog 47 #[.agg #[.int .i64 (p : Int), .int .i64 1]] w fun e w' => e = .returned (.tuple #[.int .i64 (p : Int), .int .i64 0]) ∧ Below w.heap.size w w')) (HG : Hid (∀ w : World, Calls Try.prog 48 #[.agg #[.int .i64 (p : Int), .int .i64 1]] w fun e w' => e = .returned (.tuple #[.int .i64 (p : Int), .int .i64 0]) ∧ Below w.heap.size w w')) (HQ : Hid (∀ w : World, Calls Try.prog 23 #[.int .i64 (p : Int), .int .i64 1] w fun e w' => e = .returned (.agg #[.int .i64 (p : Int), .int .i64 1]) ∧ Below w.heap.size w w')) (HD : Hid (∀ (k : Nat) (v : Int), p ≤ k → k < p → zs[k]? = some v → v < t)) :
    Calls Try.prog 8 #[.slice a n c, .int .i64 t, .int .i64 (p : Int)] w fun e w' => e = .returned (.bool true) ∧ Below w.heap.size w w' := by
  have hd : decide (100 < (n : Int)) = false := by simp; omega
  have hp0 : (0 : Int) ≤ (p : Int) := by omega
  have hp1 : ((p : Nat) : Int) < (n : Int) := by omega
  have hp2 : (p : Int) ≤ ((p : Nat) : Int) := by omega
  have HR := Lib.hid hR
  clear hR
  go_enter Try.func8, Try.ntmps8
  go_wp2_with fail
  refine (alive_true _).mono ?_
  rintro e w1 ⟨rfl, hb⟩
  have hBw : Below w.heap.size w w1 := by (repeat' (first | (with_reducible exact Below.refl _ _) | (with_reducible assumption) | (with_reducible refine belowThru ?_ (by assumption)) | (with_reducible refine belowAlloc ?_) | (with_reducible refine Below.setCell ?_ (by first | omega | (simp; done) | (simp; omega)) _) | (with_reducible refine Below.drew ?_) | (with_reducible refine below_drewN ?_ _)))
  have hzw1 := hBw.size
  clear hb
  go_wp2_with fail
  refine (HX.out _ (HR.out.later (by (repeat' first | (with_reducible exact Below.refl _ _) | (with_reducible assumption) | (with_reducible refine belowThru ?_ (by assumption)) | (with_reducible refine belowAlloc ?_))))).mono ?_
  rintro e w2 ⟨rfl, hb⟩
  replace hBw : Below w.heap.size w w2 := belowThru (by (repeat' (first | (with_reducible exact Below.refl _ _) | (with_reducible assumption) | (with_reducible refine belowThru ?_ (by assumption)) | (with_reducible refine belowAlloc ?_) | (with_reducible refine Below.setCell ?_ (by first | omega | (simp; done) | (simp; omega)) _) | (with_reducible refine Below.drew ?_) | (with_reducible refine below_drewN ?_ _)))) hb
  have hzw2 := hBw.size
  clear hb
  go_wp2_with fail
  refine (HF.out _).mono ?_
  rintro e w3 ⟨rfl, hb⟩
  have kn0 : Blk w3 (w2.heap.size) #[.int .i64 (p : Int), .int .i64 1] 23 := Blk.later hb (by (repeat' first | (with_reducible assumption) | ((with_reducible refine Blk.new ?_); first | rfl | (simp; done)) | (with_reducible refine Blk.alloc ?_)))
  have k0 := kn0; clear kn0; obtain ⟨a0, b0⟩ := k0.read; have y0 := k0.lt
  replace hBw : Below w.heap.size w w3 := belowThru (by (repeat' (first | (with_reducible exact Below.refl _ _) | (with_reducible assumption) | (with_reducible refine belowThru ?_ (by assumption)) | (with_reducible refine belowAlloc ?_) | (with_reducible refine Below.setCell ?_ (by first | omega | (simp; done) | (simp; omega)) _) | (with_reducible refine Below.drew ?_) | (with_reducible refine below_drewN ?_ _)))) hb
  have hzw3 := hBw.size
  clear hb
  go_wp2_with fail
  refine (HG.out _).mono ?_
  rintro e w4 ⟨rfl, hb⟩
  have kn0 : Blk w4 (w2.heap.size) #[.int .i64 (p : Int), .int .i64 1] 23 := Blk.later hb (by (repeat' first | (with_reducible assumption) | ((with_reducible refine Blk.new ?_); first | rfl | (simp; done)) | (with_reducible refine Blk.alloc ?_)))
  clear k0 a0 b0 y0
  have k0 := kn0; clear kn0; obtain ⟨a0, b0⟩ := k0.read; have y0 := k0.lt
  replace hBw : Below w.heap.size w w4 := belowThru (by (repeat' (first | (with_reducible exact Below.refl _ _) | (with_reducible assumption) | (with_reducible refine belowThru ?_ (by assumption)) | (with_reducible refine belowAlloc ?_) | (with_reducible refine Below.setCell ?_ (by first | omega | (simp; done) | (simp; omega)) _) | (with_reducible refine Below.drew ?_) | (with_reducible refine below_drewN ?_ _)))) hb
  have hzw4 := hBw.size
  clear hb
  go_wp2_with fail
  obtain ⟨Wp, rfl⟩ : ∃ Wp, Wp = w4 := ⟨_, rfl⟩
  clear a0 b0 y0; have y0 := k0.lt
  go_loopw [15] (fun i wr => ∃ k : Nat, p ≤ k ∧ k ≤ p ∧ i = .int .i64 k ∧ Wp = wr) (fun i _ => p - (intOf i).toNat)
  case atStart => exact ⟨p, Nat.le_refl _, by omega, rfl, rfl⟩
  case round =>
    obtain ⟨k, hpk, hk, rfl, rfl⟩ := hrel
    have q0 : (0 : Int) ≤ (k : Int) := by omega
    by_cases hlt : k < p
    · have q1 : (k : Int) < (p : Int) := by omega
      have q2 : (k : Int) < (n : Int) := by omega
      obtain ⟨bb, oo, v, e1, hbb, hv, cv⟩ := (HR.out.later hBw).int (show k < n by omega)
      cases e1
      have hvt : v < t := HD.out k v hpk hlt hv
      have hdv : decide (t ≤ v) = false := by simp; omega
      have w1 : IntKind.i64.wrap ((k : Int) + 1) = ((k + 1 : Nat) : Int) := by push_cast; exact IntWalk.i64_in _ (by omega)
      clear hv
      go_wp2
      go_roundw
      case rel => exact ⟨k + 1, by omega, by omega, by first | trivial | rfl, by first | trivial | rfl⟩
      case measure => simp [intOf]; omega
    · have q3 : (p : Int) ≤ (k : Int) := by omega
      go_wp2_with fail
      go_cut [111] (fun s111 wx => s111 = .bool true ∧ Below Wp.heap.size Wp wx)
      case first =>
        go_region_held3 (fun w' => (Blk w' (w2.heap.size) #[.int .i64 (p : Int), .int .i64 1] 23 ∧ (∀ i : Nat, w'.cell? ⟨w2.heap.size, i, none⟩ = (#[.int .i64 (p : Int), .int .i64 1] : Array Value)[i]?)) ∧ Below Wp.heap.size Wp w')
          (((first | (apply hold1B; (focus assumption); intro p0 pB) | skip); refine ⟨Blk.full ?_, ?_⟩; all_goals (first | ((repeat' (first | (with_reducible assumption) | ((with_reducible refine Blk.new ?_); first | rfl | (simp; done)) | (with_reducible refine Blk.later (by assumption) ?_) | (with_reducible refine Blk.alloc ?_) | (with_reducible refine Blk.drewN ?_) | (with_reducible refine Blk.drew ?_) | (with_reducible refine Blk.other ?_ (by first | omega | (simp; done) | (simp; omega))))); done) | ((repeat' (first | (with_reducible exact Below.refl _ _) | (with_reducible assumption) | (with_reducible refine belowThru ?_ (by assumption)) | (with_reducible refine belowAlloc ?_) | (with_reducible refine Below.setCell ?_ (by first | omega | (simp; done) | (simp; omega)) _) | (with_reducible refine Below.drew ?_) | (with_reducible refine below_drewN ?_ _))); done) | exact Below.refl _ _)))
          (first
          | (go_at_call 23; (with_reducible refine (HQ.out _).mono ?_); rintro e w1 ⟨rfl, hb⟩))
        all_goals
          apply hold1B; (focus assumption); intro p0 pB
          go_wp2_with fail
          go_meet
          exact ⟨rfl, pB⟩
      case rest =>
        obtain ⟨rfl, hb⟩ := hcut
        obtain ⟨w5, rfl⟩ : ∃ z, z = wc := ⟨_, rfl⟩
        replace k0 := Blk.later hb k0; clear y0; obtain ⟨a0, b0⟩ := k0.read; have y0 := k0.lt
        replace hBw : Below w.heap.size w w5 := belowThru hBw hb
        have hzw5 := hBw.size
        clear hb
        obtain ⟨bi, oi, vi, ei, hbi, hvi, ci⟩ := (HR.out.later hBw).int (show p < n by omega)
        cases ei
        rw [hz] at hvi
        obtain rfl := Option.some.inj hvi
        clear hvi
        go_wp2_with fail
        all_goals
          go_ret
          exact ⟨rfl, by (repeat' first | (with_reducible exact Below.refl _ _) | (with_reducible assumption) | (with_reducible refine belowThru ?_ (by assumption)) | (with_reducible refine belowAlloc ?_))⟩
set_option maxRecDepth 100000 in
set_option maxHeartbeats 16000000 in
theorem bright_same (a : Option Addr) (n c : Nat) (zs : List Int) (t : Int) (p : Nat) (w : World) (hR : Row w a n (iv zs)) (m : Nat) (N D : Int) (hm : p < m ∧ m < n) (hne : (N == (p : Int)) = false) (hz : zs[m]? = some t) (hl : n ≤ 100) (hpn : p < n) (HX : Hid (∀ w : World, Row w a n (iv zs) → Calls Try.prog 17 #[.slice a n c, .int .i64 t, .int .i64 (p : Int)] w fun e w' => e = .returned (.tuple #[.agg #[.int .i64 N, .int .i64 D], .int .i64 0]) ∧ Below w.heap.size w w')) (HF : Hid (∀ w : World, Calls Try.prog 47 #[.agg #[.int .i64 N, .int .i64 D]] w fun e w' => e = .returned (.tuple #[.int .i64 (m : Int), .int .i64 0]) ∧ Below w.heap.size w w')) (HG : Hid (∀ w : World, Calls Try.prog 48 #[.agg #[.int .i64 N, .int .i64 D]] w fun e w' => e = .returned (.tuple #[.int .i64 (m : Int), .int .i64 0]) ∧ Below w.heap.size w w')) (HQ : Hid (∀ w : World, Calls Try.prog 23 #[.int .i64 (p : Int), .int .i64 1] w fun e w' => e = .returned (.agg #[.int .i64 (p : Int), .int .i64 1]) ∧ Below w.heap.size w w')) (HD : Hid (∀ (k : Nat) (v : Int), p ≤ k → k < m → zs[k]? = some v → v < t)) :
    Calls Try.prog 8 #[.slice a n c, .int .i64 t, .int .i64 (p : Int)] w fun e w' => e = .returned (.bool true) ∧ Below w.heap.size w w' := by
  have hd : decide (100 < (n : Int)) = false := by simp; omega
  have hp0 : (0 : Int) ≤ (p : Int) := by omega
  have hp1 : ((m : Nat) : Int) < (n : Int) := by omega
  have hp2 : (p : Int) ≤ ((m : Nat) : Int) := by omega
  have HR := Lib.hid hR
  clear hR
  go_enter Try.func8, Try.ntmps8
  go_wp2_with fail
  refine (alive_true _).mono ?_
  rintro e w1 ⟨rfl, hb⟩
  have hBw : Below w.heap.size w w1 := by (repeat' (first | (with_reducible exact Below.refl _ _) | (with_reducible assumption) | (with_reducible refine belowThru ?_ (by assumption)) | (with_reducible refine belowAlloc ?_) | (with_reducible refine Below.setCell ?_ (by first | omega | (simp; done) | (simp; omega)) _) | (with_reducible refine Below.drew ?_) | (with_reducible refine below_drewN ?_ _)))
  have hzw1 := hBw.size
  clear hb
  go_wp2_with fail
  refine (HX.out _ (HR.out.later (by (repeat' first | (with_reducible exact Below.refl _ _) | (with_reducible assumption) | (with_reducible refine belowThru ?_ (by assumption)) | (with_reducible refine belowAlloc ?_))))).mono ?_
  rintro e w2 ⟨rfl, hb⟩
  replace hBw : Below w.heap.size w w2 := belowThru (by (repeat' (first | (with_reducible exact Below.refl _ _) | (with_reducible assumption) | (with_reducible refine belowThru ?_ (by assumption)) | (with_reducible refine belowAlloc ?_) | (with_reducible refine Below.setCell ?_ (by first | omega | (simp; done) | (simp; omega)) _) | (with_reducible refine Below.drew ?_) | (with_reducible refine below_drewN ?_ _)))) hb
  have hzw2 := hBw.size
  clear hb
  go_wp2_with fail
  refine (HF.out _).mono ?_
  rintro e w3 ⟨rfl, hb⟩
  have kn0 : Blk w3 (w2.heap.size) #[.int .i64 N, .int .i64 D] 23 := Blk.later hb (by (repeat' first | (with_reducible assumption) | ((with_reducible refine Blk.new ?_); first | rfl | (simp; done)) | (with_reducible refine Blk.alloc ?_)))
  have k0 := kn0; clear kn0; obtain ⟨a0, b0⟩ := k0.read; have y0 := k0.lt
  replace hBw : Below w.heap.size w w3 := belowThru (by (repeat' (first | (with_reducible exact Below.refl _ _) | (with_reducible assumption) | (with_reducible refine belowThru ?_ (by assumption)) | (with_reducible refine belowAlloc ?_) | (with_reducible refine Below.setCell ?_ (by first | omega | (simp; done) | (simp; omega)) _) | (with_reducible refine Below.drew ?_) | (with_reducible refine below_drewN ?_ _)))) hb
  have hzw3 := hBw.size
  clear hb
  go_wp2_with fail
  refine (HG.out _).mono ?_
  rintro e w4 ⟨rfl, hb⟩
  have kn0 : Blk w4 (w2.heap.size) #[.int .i64 N, .int .i64 D] 23 := Blk.later hb (by (repeat' first | (with_reducible assumption) | ((with_reducible refine Blk.new ?_); first | rfl | (simp; done)) | (with_reducible refine Blk.alloc ?_)))
  clear k0 a0 b0 y0
  have k0 := kn0; clear kn0; obtain ⟨a0, b0⟩ := k0.read; have y0 := k0.lt
  replace hBw : Below w.heap.size w w4 := belowThru (by (repeat' (first | (with_reducible exact Below.refl _ _) | (with_reducible assumption) | (with_reducible refine belowThru ?_ (by assumption)) | (with_reducible refine belowAlloc ?_) | (with_reducible refine Below.setCell ?_ (by first | omega | (simp; done) | (simp; omega)) _) | (with_reducible refine Below.drew ?_) | (with_reducible refine below_drewN ?_ _)))) hb
  have hzw4 := hBw.size
  clear hb
  go_wp2_with fail
  obtain ⟨Wp, rfl⟩ : ∃ Wp, Wp = w4 := ⟨_, rfl⟩
  clear a0 b0 y0; have y0 := k0.lt
  go_loopw [15] (fun i wr => ∃ k : Nat, p ≤ k ∧ k ≤ m ∧ i = .int .i64 k ∧ Wp = wr) (fun i _ => m - (intOf i).toNat)
  case atStart => exact ⟨p, Nat.le_refl _, by omega, rfl, rfl⟩
  case round =>
    obtain ⟨k, hpk, hk, rfl, rfl⟩ := hrel
    have q0 : (0 : Int) ≤ (k : Int) := by omega
    by_cases hlt : k < m
    · have q1 : (k : Int) < (m : Int) := by omega
      have q2 : (k : Int) < (n : Int) := by omega
      obtain ⟨bb, oo, v, e1, hbb, hv, cv⟩ := (HR.out.later hBw).int (show k < n by omega)
      cases e1
      have hvt : v < t := HD.out k v hpk hlt hv
      have hdv : decide (t ≤ v) = false := by simp; omega
      have w1 : IntKind.i64.wrap ((k : Int) + 1) = ((k + 1 : Nat) : Int) := by push_cast; exact IntWalk.i64_in _ (by omega)
      clear hv
      go_wp2
      go_roundw
      case rel => exact ⟨k + 1, by omega, by omega, by first | trivial | rfl, by first | trivial | rfl⟩
      case measure => simp [intOf]; omega
    · have q3 : (m : Int) ≤ (k : Int) := by omega
      have hne1 : decide (N = (p : Int)) = false := by simpa using hne
      go_wp2_with fail
      go_cut [111] (fun s111 wx => s111 = .bool false ∧ Below Wp.heap.size Wp wx)
      case first =>
        go_region_held3 (fun w' => (Blk w' (w2.heap.size) #[.int .i64 N, .int .i64 D] 23 ∧ (∀ i : Nat, w'.cell? ⟨w2.heap.size, i, none⟩ = (#[.int .i64 N, .int .i64 D] : Array Value)[i]?)) ∧ Below Wp.heap.size Wp w')
          (((first | (apply hold1B; (focus assumption); intro p0 pB) | skip); refine ⟨Blk.full ?_, ?_⟩; all_goals (first | ((repeat' (first | (with_reducible assumption) | ((with_reducible refine Blk.new ?_); first | rfl | (simp; done)) | (with_reducible refine Blk.later (by assumption) ?_) | (with_reducible refine Blk.alloc ?_) | (with_reducible refine Blk.drewN ?_) | (with_reducible refine Blk.drew ?_) | (with_reducible refine Blk.other ?_ (by first | omega | (simp; done) | (simp; omega))))); done) | ((repeat' (first | (with_reducible exact Below.refl _ _) | (with_reducible assumption) | (with_reducible refine belowThru ?_ (by assumption)) | (with_reducible refine belowAlloc ?_) | (with_reducible refine Below.setCell ?_ (by first | omega | (simp; done) | (simp; omega)) _) | (with_reducible refine Below.drew ?_) | (with_reducible refine below_drewN ?_ _))); done) | exact Below.refl _ _)))
          (first
          | (go_at_call 23; (with_reducible refine (HQ.out _).mono ?_); rintro e w1 ⟨rfl, hb⟩))
        all_goals
          apply hold1B; (focus assumption); intro p0 pB
          go_wp2_with fail
          go_meet
          exact ⟨rfl, pB⟩
      case rest =>
        obtain ⟨rfl, hb⟩ := hcut
        obtain ⟨w5, rfl⟩ : ∃ z, z = wc := ⟨_, rfl⟩
        replace k0 := Blk.later hb k0; clear y0; obtain ⟨a0, b0⟩ := k0.read; have y0 := k0.lt
        replace hBw : Below w.heap.size w w5 := belowThru hBw hb
        have hzw5 := hBw.size
        clear hb
        obtain ⟨bi, oi, vi, ei, hbi, hvi, ci⟩ := (HR.out.later hBw).int (show m < n by omega)
        cases ei
        rw [hz] at hvi
        obtain rfl := Option.some.inj hvi
        clear hvi
        have q5 : (0 : Int) ≤ (m : Int) := by omega
        go_wp2_with fail
        all_goals
          go_ret
          exact ⟨rfl, by (repeat' first | (with_reducible exact Below.refl _ _) | (with_reducible assumption) | (with_reducible refine belowThru ?_ (by assumption)) | (with_reducible refine belowAlloc ?_))⟩
set_option maxRecDepth 100000 in
set_option maxHeartbeats 16000000 in
theorem bright_between (a : Option Addr) (n c : Nat) (zs : List Int) (t : Int) (p : Nat) (w : World) (hR : Row w a n (iv zs)) (q m : Nat) (N D u v X1 X2 X3 X4 X5 X6 : Int) (hm : p ≤ q ∧ q < m ∧ m < n) (hne : (N == (p : Int)) = false) (hu : zs[q]? = some u) (hvv : zs[m]? = some v) (hX1 : IntKind.i64.wrap (u * D) = X1) (hX2 : IntKind.i64.wrap ((q : Int) * D) = X2) (hX3 : IntKind.i64.wrap (N - X2) = X3) (hX4 : IntKind.i64.wrap (v - u) = X4) (hX5 : IntKind.i64.wrap (X3 * X4) = X5) (hX6 : IntKind.i64.wrap (X1 + X5) = X6) (hX7 : IntKind.i64.wrap (t * D) = X6) (hl : n ≤ 100) (hpn : p < n) (HX : Hid (∀ w : World, Row w a n (iv zs) → Calls Try.prog 17 #[.slice a n c, .int .i64 t, .int .i64 (p : Int)] w fun e w' => e = .returned (.tuple #[.agg #[.int .i64 N, .int .i64 D], .int .i64 0]) ∧ Below w.heap.size w w')) (HF : Hid (∀ w : World, Calls Try.prog 47 #[.agg #[.int .i64 N, .int .i64 D]] w fun e w' => e = .returned (.tuple #[.int .i64 (q : Int), .int .i64 0]) ∧ Below w.heap.size w w')) (HG : Hid (∀ w : World, Calls Try.prog 48 #[.agg #[.int .i64 N, .int .i64 D]] w fun e w' => e = .returned (.tuple #[.int .i64 (m : Int), .int .i64 0]) ∧ Below w.heap.size w w')) (HQ : Hid (∀ w : World, Calls Try.prog 23 #[.int .i64 (p : Int), .int .i64 1] w fun e w' => e = .returned (.agg #[.int .i64 (p : Int), .int .i64 1]) ∧ Below w.heap.size w w')) (HD : Hid (∀ (k : Nat) (v : Int), p ≤ k → k < m → zs[k]? = some v → v < t)) :
    Calls Try.prog 8 #[.slice a n c, .int .i64 t, .int .i64 (p : Int)] w fun e w' => e = .returned (.bool true) ∧ Below w.heap.size w w' := by
  have hd : decide (100 < (n : Int)) = false := by simp; omega
  have hp0 : (0 : Int) ≤ (p : Int) := by omega
  have hp1 : ((m : Nat) : Int) < (n : Int) := by omega
  have hp2 : (p : Int) ≤ ((q : Nat) : Int) := by omega
  have HR := Lib.hid hR
  clear hR
  go_enter Try.func8, Try.ntmps8
  go_wp2_with fail
  refine (alive_true _).mono ?_
  rintro e w1 ⟨rfl, hb⟩
  have hBw : Below w.heap.size w w1 := by (repeat' (first | (with_reducible exact Below.refl _ _) | (with_reducible assumption) | (with_reducible refine belowThru ?_ (by assumption)) | (with_reducible refine belowAlloc ?_) | (with_reducible refine Below.setCell ?_ (by first | omega | (simp; done) | (simp; omega)) _) | (with_reducible refine Below.drew ?_) | (with_reducible refine below_drewN ?_ _)))
  have hzw1 := hBw.size
  clear hb
  go_wp2_with fail
  refine (HX.out _ (HR.out.later (by (repeat' first | (with_reducible exact Below.refl _ _) | (with_reducible assumption) | (with_reducible refine belowThru ?_ (by assumption)) | (with_reducible refine belowAlloc ?_))))).mono ?_
  rintro e w2 ⟨rfl, hb⟩
  replace hBw : Below w.heap.size w w2 := belowThru (by (repeat' (first | (with_reducible exact Below.refl _ _) | (with_reducible assumption) | (with_reducible refine belowThru ?_ (by assumption)) | (with_reducible refine belowAlloc ?_) | (with_reducible refine Below.setCell ?_ (by first | omega | (simp; done) | (simp; omega)) _) | (with_reducible refine Below.drew ?_) | (with_reducible refine below_drewN ?_ _)))) hb
  have hzw2 := hBw.size
  clear hb
  go_wp2_with fail
  refine (HF.out _).mono ?_
  rintro e w3 ⟨rfl, hb⟩
  have kn0 : Blk w3 (w2.heap.size) #[.int .i64 N, .int .i64 D] 23 := Blk.later hb (by (repeat' first | (with_reducible assumption) | ((with_reducible refine Blk.new ?_); first | rfl | (simp; done)) | (with_reducible refine Blk.alloc ?_)))
  have k0 := kn0; clear kn0; obtain ⟨a0, b0⟩ := k0.read; have y0 := k0.lt
  replace hBw : Below w.heap.size w w3 := belowThru (by (repeat' (first | (with_reducible exact Below.refl _ _) | (with_reducible assumption) | (with_reducible refine belowThru ?_ (by assumption)) | (with_reducible refine belowAlloc ?_) | (with_reducible refine Below.setCell ?_ (by first | omega | (simp; done) | (simp; omega)) _) | (with_reducible refine Below.drew ?_) | (with_reducible refine below_drewN ?_ _)))) hb
  have hzw3 := hBw.size
  clear hb
  go_wp2_with fail
  refine (HG.out _).mono ?_
  rintro e w4 ⟨rfl, hb⟩
  have kn0 : Blk w4 (w2.heap.size) #[.int .i64 N, .int .i64 D] 23 := Blk.later hb (by (repeat' first | (with_reducible assumption) | ((with_reducible refine Blk.new ?_); first | rfl | (simp; done)) | (with_reducible refine Blk.alloc ?_)))
  clear k0 a0 b0 y0
  have k0 := kn0; clear kn0; obtain ⟨a0, b0⟩ := k0.read; have y0 := k0.lt
  replace hBw : Below w.heap.size w w4 := belowThru (by (repeat' (first | (with_reducible exact Below.refl _ _) | (with_reducible assumption) | (with_reducible refine belowThru ?_ (by assumption)) | (with_reducible refine belowAlloc ?_) | (with_reducible refine Below.setCell ?_ (by first | omega | (simp; done) | (simp; omega)) _) | (with_reducible refine Below.drew ?_) | (with_reducible refine below_drewN ?_ _)))) hb
  have hzw4 := hBw.size
  clear hb
  go_wp2_with fail
  obtain ⟨Wp, rfl⟩ : ∃ Wp, Wp = w4 := ⟨_, rfl⟩
  clear a0 b0 y0; have y0 := k0.lt
  go_loopw [15] (fun i wr => ∃ k : Nat, p ≤ k ∧ k ≤ m ∧ i = .int .i64 k ∧ Wp = wr) (fun i _ => m - (intOf i).toNat)
  case atStart => exact ⟨p, Nat.le_refl _, by omega, rfl, rfl⟩
  case round =>
    obtain ⟨k, hpk, hk, rfl, rfl⟩ := hrel
    have q0 : (0 : Int) ≤ (k : Int) := by omega
    by_cases hlt : k < m
    · have q1 : (k : Int) < (m : Int) := by omega
      have q2 : (k : Int) < (n : Int) := by omega
      obtain ⟨bb, oo, v, e1, hbb, hv, cv⟩ := (HR.out.later hBw).int (show k < n by omega)
      cases e1
      have hvt : v < t := HD.out k v hpk hlt hv
      have hdv : decide (t ≤ v) = false := by simp; omega
      have w1 : IntKind.i64.wrap ((k : Int) + 1) = ((k + 1 : Nat) : Int) := by push_cast; exact IntWalk.i64_in _ (by omega)
      clear hv
      go_wp2
      go_roundw
      case rel => exact ⟨k + 1, by omega, by omega, by first | trivial | rfl, by first | trivial | rfl⟩
      case measure => simp [intOf]; omega
    · have q3 : (m : Int) ≤ (k : Int) := by omega
      have hne1 : decide (N = (p : Int)) = false := by simpa using hne
      go_wp2_with fail
      go_cut [111] (fun s111 wx => s111 = .bool false ∧ Below Wp.heap.size Wp wx)
      case first =>
        go_region_held3 (fun w' => (Blk w' (w2.heap.size) #[.int .i64 N, .int .i64 D] 23 ∧ (∀ i : Nat, w'.cell? ⟨w2.heap.size, i, none⟩ = (#[.int .i64 N, .int .i64 D] : Array Value)[i]?)) ∧ Below Wp.heap.size Wp w')
          (((first | (apply hold1B; (focus assumption); intro p0 pB) | skip); refine ⟨Blk.full ?_, ?_⟩; all_goals (first | ((repeat' (first | (with_reducible assumption) | ((with_reducible refine Blk.new ?_); first | rfl | (simp; done)) | (with_reducible refine Blk.later (by assumption) ?_) | (with_reducible refine Blk.alloc ?_) | (with_reducible refine Blk.drewN ?_) | (with_reducible refine Blk.drew ?_) | (with_reducible refine Blk.other ?_ (by first | omega | (simp; done) | (simp; omega))))); done) | ((repeat' (first | (with_reducible exact Below.refl _ _) | (with_reducible assumption) | (with_reducible refine belowThru ?_ (by assumption)) | (with_reducible refine belowAlloc ?_) | (with_reducible refine Below.setCell ?_ (by first | omega | (simp; done) | (simp; omega)) _) | (with_reducible refine Below.drew ?_) | (with_reducible refine below_drewN ?_ _))); done) | exact Below.refl _ _)))
          (first
          | (go_at_call 23; (with_reducible refine (HQ.out _).mono ?_); rintro e w1 ⟨rfl, hb⟩))
        all_goals
          apply hold1B; (focus assumption); intro p0 pB
          go_wp2_with fail
          go_meet
          exact ⟨rfl, pB⟩
      case rest =>
        obtain ⟨rfl, hb⟩ := hcut
        obtain ⟨w5, rfl⟩ : ∃ z, z = wc := ⟨_, rfl⟩
        replace k0 := Blk.later hb k0; clear y0; obtain ⟨a0, b0⟩ := k0.read; have y0 := k0.lt
        replace hBw : Below w.heap.size w w5 := belowThru hBw hb
        have hzw5 := hBw.size
        clear hb
        obtain ⟨bi, oi, vi, ei, hbi, hvi, ci⟩ := (HR.out.later hBw).int (show q < n by omega)
        cases ei
        rw [hu] at hvi
        obtain rfl := Option.some.inj hvi
        clear hvi
        obtain ⟨bj, oj, vj, ej, hbj, hvj, cj⟩ := (HR.out.later hBw).int (show m < n by omega)
        cases ej
        rw [hvv] at hvj
        obtain rfl := Option.some.inj hvj
        clear hvj
        have q5 : (0 : Int) ≤ (m : Int) := by omega
        have q6 : (0 : Int) ≤ (q : Int) := by omega
        have q7 : (q : Int) < (n : Int) := by omega
        have q8 : ((q : Int) == (m : Int)) = false := by simp; omega
        go_wp2_with fail
        go_region_held3 (fun w' => (Blk w' (w2.heap.size) #[.int .i64 N, .int .i64 D] 23 ∧ (∀ i : Nat, w'.cell? ⟨w2.heap.size, i, none⟩ = (#[.int .i64 N, .int .i64 D] : Array Value)[i]?)) ∧ w'.cell? ⟨bi, oi + q, none⟩ = some (.int .i64 u) ∧ w'.cell? ⟨bi, oi + m, none⟩ = some (.int .i64 v))
          ((exact ⟨k0.drew.full, by simpa using ci, by simpa using cj⟩))
          (fail)
        all_goals
          go_wp2_with fail
          go_ret
          exact ⟨rfl, by (repeat' (first | (with_reducible exact Below.refl _ _) | (with_reducible assumption) | (with_reducible refine belowThru ?_ (by assumption)) | (with_reducible refine belowAlloc ?_) | (with_reducible refine Below.setCell ?_ (by first | omega | (simp; done) | (simp; omega)) _) | (with_reducible refine Below.drew ?_) | (with_reducible refine below_drewN ?_ _)))⟩
end Go.Proofs.Ytbcgebobfnclnaa
