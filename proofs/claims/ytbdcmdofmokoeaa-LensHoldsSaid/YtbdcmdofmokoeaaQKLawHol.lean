/-
  LensHolds: the walks and the law.
-/
import Derived.Deep.RegionHeld3
import Derived.Test.YtbdcmdofmokoeaaQKLawAdd2
import Derived.Test.YtbdcmdofmokoeaaQKLawHoM
namespace Go.Proofs.Ytbdcmdofmokoeaa
open Go.RowKit Go.Shelf
set_option linter.unusedVariables false
set_option linter.unusedSimpArgs false

theorem holdO2 {w : World} {b0 b1 : Nat} {c0 c1 : Array Value} {t0 t1 : TypeId} {D0 D1 E G : Prop} (h : (Blk w b0 c0 t0 ∧ D0) ∧ (Blk w b1 c1 t1 ∧ D1) ∧ E) (g : Blk w b0 c0 t0 → Blk w b1 c1 t1 → E → G) : G := g h.1.1 h.2.1.1 h.2.2
theorem holdO3 {w : World} {b0 b1 b2 : Nat} {c0 c1 c2 : Array Value} {t0 t1 t2 : TypeId} {D0 D1 D2 E G : Prop} (h : (Blk w b0 c0 t0 ∧ D0) ∧ (Blk w b1 c1 t1 ∧ D1) ∧ (Blk w b2 c2 t2 ∧ D2) ∧ E) (g : Blk w b0 c0 t0 → Blk w b1 c1 t1 → Blk w b2 c2 t2 → E → G) : G := g h.1.1 h.2.1.1 h.2.2.1.1 h.2.2.2
set_option maxRecDepth 100000 in
set_option maxHeartbeats 16000000 in
theorem hol_g0 (a : Option Addr) (n c : Nat) (f g d x z : Int) (w : World) (p0 : decide ((12 : Int) < (n : Int)) = true) (HAl : Hid (∀ w : World, Calls Try.prog 23 #[] w fun e w' => e = .returned (.bool true) ∧ Below w.heap.size w w')) :
    Calls Try.prog 8 #[.slice a n c, .int .i16 f, .int .i16 g, .int .i16 d, .int .i64 x, .int .i64 z] w fun e w' => e = .returned (.bool true) ∧ Below w.heap.size w w' := by
  go_enter Try.func8, Try.ntmps8
  go_wp2_with fail
  refine (HAl.out _).mono ?_
  rintro e w1 ⟨rfl, hb⟩
  have hBw : Below w.heap.size w w1 := by (repeat' (first | (with_reducible exact Below.refl _ _) | (with_reducible assumption) | (with_reducible refine belowThru ?_ (by assumption)) | (with_reducible refine belowAlloc ?_) | (with_reducible refine Below.setCell ?_ (by first | omega | (simp; done) | (simp; omega)) _) | (with_reducible refine Below.drew ?_) | (with_reducible refine below_drewN ?_ _)))
  have hzw1 := hBw.size
  clear hb
  go_wp2_with fail
  go_ret
  exact ⟨rfl, by (repeat' (first | (with_reducible exact Below.refl _ _) | (with_reducible assumption) | (with_reducible refine belowThru ?_ (by assumption)) | (with_reducible refine belowAlloc ?_) | (with_reducible refine Below.setCell ?_ (by first | omega | (simp; done) | (simp; omega)) _) | (with_reducible refine Below.drew ?_) | (with_reducible refine below_drewN ?_ _)))⟩
set_option maxRecDepth 100000 in
set_option maxHeartbeats 16000000 in
theorem hol_g1 (a : Option Addr) (n c : Nat) (f g d x z : Int) (w : World) (p0 : decide ((12 : Int) < (n : Int)) = false) (p1 : decide (x < -1000) = true) (HAl : Hid (∀ w : World, Calls Try.prog 23 #[] w fun e w' => e = .returned (.bool true) ∧ Below w.heap.size w w')) :
    Calls Try.prog 8 #[.slice a n c, .int .i16 f, .int .i16 g, .int .i16 d, .int .i64 x, .int .i64 z] w fun e w' => e = .returned (.bool true) ∧ Below w.heap.size w w' := by
  go_enter Try.func8, Try.ntmps8
  go_wp2_with fail
  refine (HAl.out _).mono ?_
  rintro e w1 ⟨rfl, hb⟩
  have hBw : Below w.heap.size w w1 := by (repeat' (first | (with_reducible exact Below.refl _ _) | (with_reducible assumption) | (with_reducible refine belowThru ?_ (by assumption)) | (with_reducible refine belowAlloc ?_) | (with_reducible refine Below.setCell ?_ (by first | omega | (simp; done) | (simp; omega)) _) | (with_reducible refine Below.drew ?_) | (with_reducible refine below_drewN ?_ _)))
  have hzw1 := hBw.size
  clear hb
  go_wp2_with fail
  go_ret
  exact ⟨rfl, by (repeat' (first | (with_reducible exact Below.refl _ _) | (with_reducible assumption) | (with_reducible refine belowThru ?_ (by assumption)) | (with_reducible refine belowAlloc ?_) | (with_reducible refine Below.setCell ?_ (by first | omega | (simp; done) | (simp; omega)) _) | (with_reducible refine Below.drew ?_) | (with_reducible refine below_drewN ?_ _)))⟩
set_option maxRecDepth 100000 in
set_option maxHeartbeats 16000000 in
theorem hol_g2 (a : Option Addr) (n c : Nat) (f g d x z : Int) (w : World) (p0 : decide ((12 : Int) < (n : Int)) = false) (p1 : decide (x < -1000) = false) (p2 : decide (1000 < x) = true) (HAl : Hid (∀ w : World, Calls Try.prog 23 #[] w fun e w' => e = .returned (.bool true) ∧ Below w.heap.size w w')) :
    Calls Try.prog 8 #[.slice a n c, .int .i16 f, .int .i16 g, .int .i16 d, .int .i64 x, .int .i64 z] w fun e w' => e = .returned (.bool true) ∧ Below w.heap.size w w' := by
  go_enter Try.func8, Try.ntmps8
  go_wp2_with fail
  refine (HAl.out _).mono ?_
  rintro e w1 ⟨rfl, hb⟩
  have hBw : Below w.heap.size w w1 := by (repeat' (first | (with_reducible exact Below.refl _ _) | (with_reducible assumption) | (with_reducible refine belowThru ?_ (by assumption)) | (with_reducible refine belowAlloc ?_) | (with_reducible refine Below.setCell ?_ (by first | omega | (simp; done) | (simp; omega)) _) | (with_reducible refine Below.drew ?_) | (with_reducible refine below_drewN ?_ _)))
  have hzw1 := hBw.size
  clear hb
  go_wp2_with fail
  go_ret
  exact ⟨rfl, by (repeat' (first | (with_reducible exact Below.refl _ _) | (with_reducible assumption) | (with_reducible refine belowThru ?_ (by assumption)) | (with_reducible refine belowAlloc ?_) | (with_reducible refine Below.setCell ?_ (by first | omega | (simp; done) | (simp; omega)) _) | (with_reducible refine Below.drew ?_) | (with_reducible refine below_drewN ?_ _)))⟩
set_option maxRecDepth 100000 in
set_option maxHeartbeats 16000000 in
theorem hol_g3 (a : Option Addr) (n c : Nat) (f g d x z : Int) (w : World) (p0 : decide ((12 : Int) < (n : Int)) = false) (p1 : decide (x < -1000) = false) (p2 : decide (1000 < x) = false) (p3 : decide (z < 1) = true) (HAl : Hid (∀ w : World, Calls Try.prog 23 #[] w fun e w' => e = .returned (.bool true) ∧ Below w.heap.size w w')) :
    Calls Try.prog 8 #[.slice a n c, .int .i16 f, .int .i16 g, .int .i16 d, .int .i64 x, .int .i64 z] w fun e w' => e = .returned (.bool true) ∧ Below w.heap.size w w' := by
  go_enter Try.func8, Try.ntmps8
  go_wp2_with fail
  refine (HAl.out _).mono ?_
  rintro e w1 ⟨rfl, hb⟩
  have hBw : Below w.heap.size w w1 := by (repeat' (first | (with_reducible exact Below.refl _ _) | (with_reducible assumption) | (with_reducible refine belowThru ?_ (by assumption)) | (with_reducible refine belowAlloc ?_) | (with_reducible refine Below.setCell ?_ (by first | omega | (simp; done) | (simp; omega)) _) | (with_reducible refine Below.drew ?_) | (with_reducible refine below_drewN ?_ _)))
  have hzw1 := hBw.size
  clear hb
  go_wp2_with fail
  go_ret
  exact ⟨rfl, by (repeat' (first | (with_reducible exact Below.refl _ _) | (with_reducible assumption) | (with_reducible refine belowThru ?_ (by assumption)) | (with_reducible refine belowAlloc ?_) | (with_reducible refine Below.setCell ?_ (by first | omega | (simp; done) | (simp; omega)) _) | (with_reducible refine Below.drew ?_) | (with_reducible refine below_drewN ?_ _)))⟩
set_option maxRecDepth 100000 in
set_option maxHeartbeats 16000000 in
theorem hol_g4 (a : Option Addr) (n c : Nat) (f g d x z : Int) (w : World) (p0 : decide ((12 : Int) < (n : Int)) = false) (p1 : decide (x < -1000) = false) (p2 : decide (1000 < x) = false) (p3 : decide (z < 1) = false) (p4 : decide (1000 < z) = true) (HAl : Hid (∀ w : World, Calls Try.prog 23 #[] w fun e w' => e = .returned (.bool true) ∧ Below w.heap.size w w')) :
    Calls Try.prog 8 #[.slice a n c, .int .i16 f, .int .i16 g, .int .i16 d, .int .i64 x, .int .i64 z] w fun e w' => e = .returned (.bool true) ∧ Below w.heap.size w w' := by
  go_enter Try.func8, Try.ntmps8
  go_wp2_with fail
  refine (HAl.out _).mono ?_
  rintro e w1 ⟨rfl, hb⟩
  have hBw : Below w.heap.size w w1 := by (repeat' (first | (with_reducible exact Below.refl _ _) | (with_reducible assumption) | (with_reducible refine belowThru ?_ (by assumption)) | (with_reducible refine belowAlloc ?_) | (with_reducible refine Below.setCell ?_ (by first | omega | (simp; done) | (simp; omega)) _) | (with_reducible refine Below.drew ?_) | (with_reducible refine below_drewN ?_ _)))
  have hzw1 := hBw.size
  clear hb
  go_wp2_with fail
  go_ret
  exact ⟨rfl, by (repeat' (first | (with_reducible exact Below.refl _ _) | (with_reducible assumption) | (with_reducible refine belowThru ?_ (by assumption)) | (with_reducible refine belowAlloc ?_) | (with_reducible refine Below.setCell ?_ (by first | omega | (simp; done) | (simp; omega)) _) | (with_reducible refine Below.drew ?_) | (with_reducible refine below_drewN ?_ _)))⟩
set_option maxRecDepth 100000 in
set_option maxHeartbeats 16000000 in
theorem hol_bad (a : Option Addr) (n c : Nat) (vs : List Vw) (f g d x z N M D c1 c2 c3 c4 c5 c6 c7 c8 r1 r2 r3 r4 f1 f2 g1 g2 h1 h2 : Int) (w : World) (hn : n ≤ 12) (p0 : decide ((12 : Int) < (n : Int)) = false) (p1 : decide (x < -1000) = false) (p2 : decide (1000 < x) = false) (p3 : decide (z < 1) = false) (p4 : decide (1000 < z) = false) (HR : Hid (VRow w a n vs)) (HAl : Hid (∀ w : World, Calls Try.prog 23 #[] w fun e w' => e = .returned (.bool true) ∧ Below w.heap.size w w')) (HB : Hid (¬ AllV vs n)) (HP : Hid (∀ W : World, Calls Try.prog 41 #[.int .i16 f, .int .i16 g, .int .i16 d] W fun e W' => e = .returned (.agg #[.int .i64 N, .int .i64 M, .int .i64 D]) ∧ Below W.heap.size W W')) :
    Calls Try.prog 8 #[.slice a n c, .int .i16 f, .int .i16 g, .int .i16 d, .int .i64 x, .int .i64 z] w fun e w' => e = .returned (.bool true) ∧ Below w.heap.size w w' := by
  have HN := Lib.hid hn
  clear hn
  go_enter Try.func8, Try.ntmps8
  go_wp2_with fail
  refine (HAl.out _).mono ?_
  rintro e w1 ⟨rfl, hb⟩
  have hBw : Below w.heap.size w w1 := by (repeat' (first | (with_reducible exact Below.refl _ _) | (with_reducible assumption) | (with_reducible refine belowThru ?_ (by assumption)) | (with_reducible refine belowAlloc ?_) | (with_reducible refine Below.setCell ?_ (by first | omega | (simp; done) | (simp; omega)) _) | (with_reducible refine Below.drew ?_) | (with_reducible refine below_drewN ?_ _)))
  have hzw1 := hBw.size
  clear hb
  go_wp2_with fail
  refine (HP.out _).mono ?_
  rintro e w2 ⟨rfl, hb⟩
  replace hBw : Below w.heap.size w w2 := belowThru (by (repeat' (first | (with_reducible exact Below.refl _ _) | (with_reducible assumption) | (with_reducible refine belowThru ?_ (by assumption)) | (with_reducible refine belowAlloc ?_) | (with_reducible refine Below.setCell ?_ (by first | omega | (simp; done) | (simp; omega)) _) | (with_reducible refine Below.drew ?_) | (with_reducible refine below_drewN ?_ _)))) hb
  have hzw2 := hBw.size
  clear hb
  go_wp2_with fail
  have kp : Blk (w2.alloc (.cells #[.int .i64 N, .int .i64 M, .int .i64 D] 75)) w2.heap.size #[.int .i64 N, .int .i64 M, .int .i64 D] 75 := Blk.new rfl
  go_loopw [15, 59] (fun _ i wr => ∃ k : Nat, k ≤ n ∧ i = .int .i64 k ∧ Hid (AllV vs k) ∧ Blk wr w2.heap.size #[.int .i64 N, .int .i64 M, .int .i64 D] 75 ∧ Below w.heap.size w wr) (fun _ i _ => n - (intOf i).toNat)
  case atStart => exact ⟨0, Nat.zero_le _, rfl, (fun i v h => absurd h (by omega) : AllV vs 0), by (repeat' (first | (with_reducible assumption) | ((with_reducible refine Blk.new ?_); first | rfl | (simp; done)) | (with_reducible refine Blk.later (by assumption) ?_) | (with_reducible refine Blk.alloc ?_) | (with_reducible refine Blk.drewN ?_) | (with_reducible refine Blk.drew ?_) | (with_reducible refine Blk.other ?_ (by first | omega | (simp; done) | (simp; omega))))), by (repeat' (first | (with_reducible exact Below.refl _ _) | (with_reducible assumption) | (with_reducible refine belowThru ?_ (by assumption)) | (with_reducible refine belowAlloc ?_) | (with_reducible refine Below.setCell ?_ (by first | omega | (simp; done) | (simp; omega)) _) | (with_reducible refine Below.drew ?_) | (with_reducible refine below_drewN ?_ _)))⟩
  case round =>
    clear kp
    obtain ⟨k, hk, rfl, ht, kp, hB⟩ := hrel
    have hn12 := HN.out
    by_cases hlt : k < n
    · obtain ⟨bb, oo, vx, vz, vl, vh, rfl, l1, e1, q1, q2, q3, q4⟩ := HR.out.at hlt
      have q1 := cell_later hB q1
      have q2 := cell_later hB q2
      have q3 := cell_later hB q3
      have q4 := cell_later hB q4
      have u0 : (0 : Int) ≤ (k : Int) := by omega
      have u1 : (k : Int) < (n : Int) := by omega
      have HVk : ∀ W : World, _ := fun W => vview_any (vx, vz, vl, vh) W
      by_cases hv : InV (vx, vz, vl, vh)
      · rw [decide_eq_true hv] at HVk
        have ht2 : Hid (AllV vs (k + 1)) := fun i v hi hw => by
          rcases Nat.lt_or_ge i k with q | q
          · exact ht.out i v q hw
          · obtain rfl : i = k := by omega
            rw [e1] at hw; cases hw; exact hv
        have HV := Lib.hid HVk; clear HVk e1 ht hv
        go_wp2_with fail
        refine (HV.out _).mono ?_
        rintro e w9 ⟨rfl, hb⟩
        have kq := Blk.later hb kp; have hB9 := belowThru hB hb
        clear hb
        go_wp2_with fail
        go_roundw
        case rel => exact ⟨k + 1, hlt, by go_num, ht2, kq, hB9⟩
        case measure => simp [intOf]; omega
      · rw [decide_eq_false hv] at HVk
        have HV := Lib.hid HVk; clear HVk e1 ht hv
        go_wp2_with fail
        refine (HV.out _).mono ?_
        rintro e w9 ⟨rfl, hb⟩
        have kq := Blk.later hb kp; have hB9 := belowThru hB hb
        clear hb
        go_wp2_with fail
        go_ret
        exact ⟨rfl, hB9⟩
    · obtain rfl : k = n := by omega
      exact absurd ht.out HB.out
set_option maxRecDepth 100000 in
set_option maxHeartbeats 16000000 in
theorem hol_all (a : Option Addr) (n c : Nat) (vs : List Vw) (f g d x z N M D c1 c2 c3 c4 c5 c6 c7 c8 r1 r2 r3 r4 f1 f2 g1 g2 h1 h2 : Int) (w : World) (hn : n ≤ 12) (p0 : decide ((12 : Int) < (n : Int)) = false) (p1 : decide (x < -1000) = false) (p2 : decide (1000 < x) = false) (p3 : decide (z < 1) = false) (p4 : decide (1000 < z) = false) (HR : Hid (VRow w a n vs)) (HAl : Hid (∀ w : World, Calls Try.prog 23 #[] w fun e w' => e = .returned (.bool true) ∧ Below w.heap.size w w')) (HP : Hid (∀ W : World, Calls Try.prog 41 #[.int .i16 f, .int .i16 g, .int .i16 d] W fun e W' => e = .returned (.agg #[.int .i64 N, .int .i64 M, .int .i64 D]) ∧ Below W.heap.size W W')) (HV0 : Hid (∀ v ∈ vs, InV v)) (HL : Hid (∀ W : World, VRow W a n vs → Calls Try.prog 43 #[.agg #[.int .i64 N, .int .i64 M, .int .i64 D], .slice a n c] W fun e W' => e = .returned (.bool false) ∧ Below W.heap.size W W')) :
    Calls Try.prog 8 #[.slice a n c, .int .i16 f, .int .i16 g, .int .i16 d, .int .i64 x, .int .i64 z] w fun e w' => e = .returned (.bool true) ∧ Below w.heap.size w w' := by
  have HN := Lib.hid hn
  clear hn
  go_enter Try.func8, Try.ntmps8
  go_wp2_with fail
  refine (HAl.out _).mono ?_
  rintro e w1 ⟨rfl, hb⟩
  have hBw : Below w.heap.size w w1 := by (repeat' (first | (with_reducible exact Below.refl _ _) | (with_reducible assumption) | (with_reducible refine belowThru ?_ (by assumption)) | (with_reducible refine belowAlloc ?_) | (with_reducible refine Below.setCell ?_ (by first | omega | (simp; done) | (simp; omega)) _) | (with_reducible refine Below.drew ?_) | (with_reducible refine below_drewN ?_ _)))
  have hzw1 := hBw.size
  clear hb
  go_wp2_with fail
  refine (HP.out _).mono ?_
  rintro e w2 ⟨rfl, hb⟩
  replace hBw : Below w.heap.size w w2 := belowThru (by (repeat' (first | (with_reducible exact Below.refl _ _) | (with_reducible assumption) | (with_reducible refine belowThru ?_ (by assumption)) | (with_reducible refine belowAlloc ?_) | (with_reducible refine Below.setCell ?_ (by first | omega | (simp; done) | (simp; omega)) _) | (with_reducible refine Below.drew ?_) | (with_reducible refine below_drewN ?_ _)))) hb
  have hzw2 := hBw.size
  clear hb
  go_wp2_with fail
  have kp : Blk (w2.alloc (.cells #[.int .i64 N, .int .i64 M, .int .i64 D] 75)) w2.heap.size #[.int .i64 N, .int .i64 M, .int .i64 D] 75 := Blk.new rfl
  go_loopw [15, 59] (fun _ i wr => ∃ k : Nat, k ≤ n ∧ i = .int .i64 k ∧ Blk wr w2.heap.size #[.int .i64 N, .int .i64 M, .int .i64 D] 75 ∧ Below w.heap.size w wr) (fun _ i _ => n - (intOf i).toNat)
  case atStart => exact ⟨0, Nat.zero_le _, rfl, by (repeat' (first | (with_reducible assumption) | ((with_reducible refine Blk.new ?_); first | rfl | (simp; done)) | (with_reducible refine Blk.later (by assumption) ?_) | (with_reducible refine Blk.alloc ?_) | (with_reducible refine Blk.drewN ?_) | (with_reducible refine Blk.drew ?_) | (with_reducible refine Blk.other ?_ (by first | omega | (simp; done) | (simp; omega))))), by (repeat' (first | (with_reducible exact Below.refl _ _) | (with_reducible assumption) | (with_reducible refine belowThru ?_ (by assumption)) | (with_reducible refine belowAlloc ?_) | (with_reducible refine Below.setCell ?_ (by first | omega | (simp; done) | (simp; omega)) _) | (with_reducible refine Below.drew ?_) | (with_reducible refine below_drewN ?_ _)))⟩
  case round =>
    clear kp
    obtain ⟨k, hk, rfl, kp, hB⟩ := hrel
    have hn12 := HN.out
    by_cases hlt : k < n
    · obtain ⟨bb, oo, vx, vz, vl, vh, rfl, l1, e1, q1, q2, q3, q4⟩ := HR.out.at hlt
      have q1 := cell_later hB q1
      have q2 := cell_later hB q2
      have q3 := cell_later hB q3
      have q4 := cell_later hB q4
      have u0 : (0 : Int) ≤ (k : Int) := by omega
      have u1 : (k : Int) < (n : Int) := by omega
      have HVk : ∀ W : World, _ := fun W => vview_any (vx, vz, vl, vh) W
      rw [decide_eq_true (HV0.out _ (List.mem_of_getElem? e1))] at HVk
      have HV := Lib.hid HVk; clear HVk e1
      go_wp2_with fail
      refine (HV.out _).mono ?_
      rintro e w9 ⟨rfl, hb⟩
      have kq := Blk.later hb kp; have hB9 := belowThru hB hb
      clear hb
      go_wp2_with fail
      go_roundw
      case rel => exact ⟨k + 1, hlt, by go_num, kq, hB9⟩
      case measure => simp [intOf]; omega
    · obtain rfl : k = n := by omega
      have k0 := kp; clear kp; have hBw := hB; clear hB
      obtain ⟨a0, b0⟩ := k0.read; have y0 := k0.lt
      go_wp2_with fail
      refine (HL.out _ (HR.out.later (by (repeat' (first | (with_reducible exact Below.refl _ _) | (with_reducible assumption) | (with_reducible refine belowThru ?_ (by assumption)) | (with_reducible refine belowAlloc ?_) | (with_reducible refine Below.setCell ?_ (by first | omega | (simp; done) | (simp; omega)) _) | (with_reducible refine Below.drew ?_) | (with_reducible refine below_drewN ?_ _)))))).mono ?_
      rintro e w21 ⟨rfl, hb⟩
      have kn0 : Blk w21 (w2.heap.size) #[.int .i64 N, .int .i64 M, .int .i64 D] 75 := Blk.later hb (by (repeat' (first | (with_reducible assumption) | (with_reducible refine Blk.set2 ?_) | ((with_reducible refine Blk.new ?_); first | rfl | (simp; done)) | (with_reducible refine Blk.later (by assumption) ?_) | (with_reducible refine Blk.alloc ?_) | (with_reducible refine Blk.drewN ?_) | (with_reducible refine Blk.drew ?_) | (with_reducible refine Blk.other ?_ (by first | omega | (simp; done) | (simp; omega))))))
      clear k0 a0 b0 y0
      have k0 := kn0; clear kn0; obtain ⟨a0, b0⟩ := k0.read; have y0 := k0.lt
      replace hBw : Below w.heap.size w w21 := belowThru (by (repeat' (first | (with_reducible exact Below.refl _ _) | (with_reducible assumption) | (with_reducible refine belowThru ?_ (by assumption)) | (with_reducible refine belowAlloc ?_) | (with_reducible refine Below.setCell ?_ (by first | omega | (simp; done) | (simp; omega)) _) | (with_reducible refine Below.drew ?_) | (with_reducible refine below_drewN ?_ _)))) hb
      have hzw21 := hBw.size
      clear hb
      go_wp2_with fail
      go_ret
      exact ⟨rfl, by (repeat' (first | (with_reducible exact Below.refl _ _) | (with_reducible assumption) | (with_reducible refine belowThru ?_ (by assumption)) | (with_reducible refine belowAlloc ?_) | (with_reducible refine Below.setCell ?_ (by first | omega | (simp; done) | (simp; omega)) _) | (with_reducible refine Below.drew ?_) | (with_reducible refine below_drewN ?_ _)))⟩
set_option maxRecDepth 100000 in
set_option maxHeartbeats 16000000 in
theorem hol_alk (a : Option Addr) (n c : Nat) (vs : List Vw) (f g d x z N M D c1 c2 c3 c4 c5 c6 c7 c8 r1 r2 r3 r4 f1 f2 g1 g2 h1 h2 : Int) (w : World) (hn : n ≤ 12) (p0 : decide ((12 : Int) < (n : Int)) = false) (p1 : decide (x < -1000) = false) (p2 : decide (1000 < x) = false) (p3 : decide (z < 1) = false) (p4 : decide (1000 < z) = false) (HR : Hid (VRow w a n vs)) (HAl : Hid (∀ w : World, Calls Try.prog 23 #[] w fun e w' => e = .returned (.bool true) ∧ Below w.heap.size w w')) (HP : Hid (∀ W : World, Calls Try.prog 41 #[.int .i16 f, .int .i16 g, .int .i16 d] W fun e W' => e = .returned (.agg #[.int .i64 N, .int .i64 M, .int .i64 D]) ∧ Below W.heap.size W W')) (HV0 : Hid (∀ v ∈ vs, InV v)) (HL : Hid (∀ W : World, VRow W a n vs → Calls Try.prog 43 #[.agg #[.int .i64 N, .int .i64 M, .int .i64 D], .slice a n c] W fun e W' => e = .returned (.bool true) ∧ Below W.heap.size W W')) (HK : Hid (∀ W : World, VRow W a n vs → Calls Try.prog 44 #[.slice a n c] W fun e W' => e = .returned (.bool true) ∧ Below W.heap.size W W')) :
    Calls Try.prog 8 #[.slice a n c, .int .i16 f, .int .i16 g, .int .i16 d, .int .i64 x, .int .i64 z] w fun e w' => e = .returned (.bool true) ∧ Below w.heap.size w w' := by
  have HN := Lib.hid hn
  clear hn
  go_enter Try.func8, Try.ntmps8
  go_wp2_with fail
  refine (HAl.out _).mono ?_
  rintro e w1 ⟨rfl, hb⟩
  have hBw : Below w.heap.size w w1 := by (repeat' (first | (with_reducible exact Below.refl _ _) | (with_reducible assumption) | (with_reducible refine belowThru ?_ (by assumption)) | (with_reducible refine belowAlloc ?_) | (with_reducible refine Below.setCell ?_ (by first | omega | (simp; done) | (simp; omega)) _) | (with_reducible refine Below.drew ?_) | (with_reducible refine below_drewN ?_ _)))
  have hzw1 := hBw.size
  clear hb
  go_wp2_with fail
  refine (HP.out _).mono ?_
  rintro e w2 ⟨rfl, hb⟩
  replace hBw : Below w.heap.size w w2 := belowThru (by (repeat' (first | (with_reducible exact Below.refl _ _) | (with_reducible assumption) | (with_reducible refine belowThru ?_ (by assumption)) | (with_reducible refine belowAlloc ?_) | (with_reducible refine Below.setCell ?_ (by first | omega | (simp; done) | (simp; omega)) _) | (with_reducible refine Below.drew ?_) | (with_reducible refine below_drewN ?_ _)))) hb
  have hzw2 := hBw.size
  clear hb
  go_wp2_with fail
  have kp : Blk (w2.alloc (.cells #[.int .i64 N, .int .i64 M, .int .i64 D] 75)) w2.heap.size #[.int .i64 N, .int .i64 M, .int .i64 D] 75 := Blk.new rfl
  go_loopw [15, 59] (fun _ i wr => ∃ k : Nat, k ≤ n ∧ i = .int .i64 k ∧ Blk wr w2.heap.size #[.int .i64 N, .int .i64 M, .int .i64 D] 75 ∧ Below w.heap.size w wr) (fun _ i _ => n - (intOf i).toNat)
  case atStart => exact ⟨0, Nat.zero_le _, rfl, by (repeat' (first | (with_reducible assumption) | ((with_reducible refine Blk.new ?_); first | rfl | (simp; done)) | (with_reducible refine Blk.later (by assumption) ?_) | (with_reducible refine Blk.alloc ?_) | (with_reducible refine Blk.drewN ?_) | (with_reducible refine Blk.drew ?_) | (with_reducible refine Blk.other ?_ (by first | omega | (simp; done) | (simp; omega))))), by (repeat' (first | (with_reducible exact Below.refl _ _) | (with_reducible assumption) | (with_reducible refine belowThru ?_ (by assumption)) | (with_reducible refine belowAlloc ?_) | (with_reducible refine Below.setCell ?_ (by first | omega | (simp; done) | (simp; omega)) _) | (with_reducible refine Below.drew ?_) | (with_reducible refine below_drewN ?_ _)))⟩
  case round =>
    clear kp
    obtain ⟨k, hk, rfl, kp, hB⟩ := hrel
    have hn12 := HN.out
    by_cases hlt : k < n
    · obtain ⟨bb, oo, vx, vz, vl, vh, rfl, l1, e1, q1, q2, q3, q4⟩ := HR.out.at hlt
      have q1 := cell_later hB q1
      have q2 := cell_later hB q2
      have q3 := cell_later hB q3
      have q4 := cell_later hB q4
      have u0 : (0 : Int) ≤ (k : Int) := by omega
      have u1 : (k : Int) < (n : Int) := by omega
      have HVk : ∀ W : World, _ := fun W => vview_any (vx, vz, vl, vh) W
      rw [decide_eq_true (HV0.out _ (List.mem_of_getElem? e1))] at HVk
      have HV := Lib.hid HVk; clear HVk e1
      go_wp2_with fail
      refine (HV.out _).mono ?_
      rintro e w9 ⟨rfl, hb⟩
      have kq := Blk.later hb kp; have hB9 := belowThru hB hb
      clear hb
      go_wp2_with fail
      go_roundw
      case rel => exact ⟨k + 1, hlt, by go_num, kq, hB9⟩
      case measure => simp [intOf]; omega
    · obtain rfl : k = n := by omega
      have k0 := kp; clear kp; have hBw := hB; clear hB
      obtain ⟨a0, b0⟩ := k0.read; have y0 := k0.lt
      go_wp2_with fail
      refine (HL.out _ (HR.out.later (by (repeat' (first | (with_reducible exact Below.refl _ _) | (with_reducible assumption) | (with_reducible refine belowThru ?_ (by assumption)) | (with_reducible refine belowAlloc ?_) | (with_reducible refine Below.setCell ?_ (by first | omega | (simp; done) | (simp; omega)) _) | (with_reducible refine Below.drew ?_) | (with_reducible refine below_drewN ?_ _)))))).mono ?_
      rintro e w21 ⟨rfl, hb⟩
      have kn0 : Blk w21 (w2.heap.size) #[.int .i64 N, .int .i64 M, .int .i64 D] 75 := Blk.later hb (by (repeat' (first | (with_reducible assumption) | (with_reducible refine Blk.set2 ?_) | ((with_reducible refine Blk.new ?_); first | rfl | (simp; done)) | (with_reducible refine Blk.later (by assumption) ?_) | (with_reducible refine Blk.alloc ?_) | (with_reducible refine Blk.drewN ?_) | (with_reducible refine Blk.drew ?_) | (with_reducible refine Blk.other ?_ (by first | omega | (simp; done) | (simp; omega))))))
      clear k0 a0 b0 y0
      have k0 := kn0; clear kn0; obtain ⟨a0, b0⟩ := k0.read; have y0 := k0.lt
      replace hBw : Below w.heap.size w w21 := belowThru (by (repeat' (first | (with_reducible exact Below.refl _ _) | (with_reducible assumption) | (with_reducible refine belowThru ?_ (by assumption)) | (with_reducible refine belowAlloc ?_) | (with_reducible refine Below.setCell ?_ (by first | omega | (simp; done) | (simp; omega)) _) | (with_reducible refine Below.drew ?_) | (with_reducible refine below_drewN ?_ _)))) hb
      have hzw21 := hBw.size
      clear hb
      go_wp2_with fail
      refine (HK.out _ (HR.out.later (by (repeat' (first | (with_reducible exact Below.refl _ _) | (with_reducible assumption) | (with_reducible refine belowThru ?_ (by assumption)) | (with_reducible refine belowAlloc ?_) | (with_reducible refine Below.setCell ?_ (by first | omega | (simp; done) | (simp; omega)) _) | (with_reducible refine Below.drew ?_) | (with_reducible refine below_drewN ?_ _)))))).mono ?_
      rintro e w22 ⟨rfl, hb⟩
      have kn0 : Blk w22 (w2.heap.size) #[.int .i64 N, .int .i64 M, .int .i64 D] 75 := Blk.later hb (by (repeat' (first | (with_reducible assumption) | (with_reducible refine Blk.set2 ?_) | ((with_reducible refine Blk.new ?_); first | rfl | (simp; done)) | (with_reducible refine Blk.later (by assumption) ?_) | (with_reducible refine Blk.alloc ?_) | (with_reducible refine Blk.drewN ?_) | (with_reducible refine Blk.drew ?_) | (with_reducible refine Blk.other ?_ (by first | omega | (simp; done) | (simp; omega))))))
      clear k0 a0 b0 y0
      have k0 := kn0; clear kn0; obtain ⟨a0, b0⟩ := k0.read; have y0 := k0.lt
      replace hBw : Below w.heap.size w w22 := belowThru (by (repeat' (first | (with_reducible exact Below.refl _ _) | (with_reducible assumption) | (with_reducible refine belowThru ?_ (by assumption)) | (with_reducible refine belowAlloc ?_) | (with_reducible refine Below.setCell ?_ (by first | omega | (simp; done) | (simp; omega)) _) | (with_reducible refine Below.drew ?_) | (with_reducible refine below_drewN ?_ _)))) hb
      have hzw22 := hBw.size
      clear hb
      go_wp2_with fail
      go_ret
      exact ⟨rfl, by (repeat' (first | (with_reducible exact Below.refl _ _) | (with_reducible assumption) | (with_reducible refine belowThru ?_ (by assumption)) | (with_reducible refine belowAlloc ?_) | (with_reducible refine Below.setCell ?_ (by first | omega | (simp; done) | (simp; omega)) _) | (with_reducible refine Below.drew ?_) | (with_reducible refine below_drewN ?_ _)))⟩
set_option maxRecDepth 100000 in
set_option maxHeartbeats 16000000 in
theorem hol_yes (a : Option Addr) (n c : Nat) (vs : List Vw) (f g d x z N M D c1 c2 c3 c4 c5 c6 c7 c8 r1 r2 r3 r4 f1 f2 g1 g2 h1 h2 : Int) (w : World) (hn : n ≤ 12) (p0 : decide ((12 : Int) < (n : Int)) = false) (p1 : decide (x < -1000) = false) (p2 : decide (1000 < x) = false) (p3 : decide (z < 1) = false) (p4 : decide (1000 < z) = false) (m1 : IntKind.i64.wrap (N * x) = N * x) (m2 : IntKind.i64.wrap (M * z) = M * z) (m3 : IntKind.i64.wrap (N * x + M * z) = N * x + M * z) (m4 : IntKind.i64.wrap (D * z) = D * z) (HR : Hid (VRow w a n vs)) (HAl : Hid (∀ w : World, Calls Try.prog 23 #[] w fun e w' => e = .returned (.bool true) ∧ Below w.heap.size w w')) (HP : Hid (∀ W : World, Calls Try.prog 41 #[.int .i16 f, .int .i16 g, .int .i16 d] W fun e W' => e = .returned (.agg #[.int .i64 N, .int .i64 M, .int .i64 D]) ∧ Below W.heap.size W W')) (HV0 : Hid (∀ v ∈ vs, InV v)) (HL : Hid (∀ W : World, VRow W a n vs → Calls Try.prog 43 #[.agg #[.int .i64 N, .int .i64 M, .int .i64 D], .slice a n c] W fun e W' => e = .returned (.bool true) ∧ Below W.heap.size W W')) (HK : Hid (∀ W : World, VRow W a n vs → Calls Try.prog 44 #[.slice a n c] W fun e W' => e = .returned (.bool false) ∧ Below W.heap.size W W')) (HC : Hid (∀ W : World, VRow W a n vs → Calls Try.prog 21 #[.slice a n c] W fun e W' => e = .returned (.tuple #[.agg #[.int .i64 c1, .int .i64 c2, .int .i64 c3, .int .i64 c4, .int .i64 c5, .int .i64 c6, .int .i64 c7, .int .i64 c8], .int .i64 0]) ∧ Below W.heap.size W W')) (HG : Hid (∀ W : World, VRow W a n vs → Calls Try.prog 19 #[.slice a n c, .int .i64 x, .int .i64 z] W fun e W' => e = .returned (.tuple #[.agg #[.int .i64 r1, .int .i64 r2, .int .i64 r3, .int .i64 r4], .int .i64 0]) ∧ Below W.heap.size W W')) (A1 : Hid (∀ W : World, Calls Try.prog 45 #[.int .i64 N, .int .i64 D] W fun e W' => e = .returned (.agg #[.int .i64 f1, .int .i64 f2]) ∧ Below W.heap.size W W')) (A2 : Hid (∀ W : World, Calls Try.prog 45 #[.int .i64 M, .int .i64 D] W fun e W' => e = .returned (.agg #[.int .i64 g1, .int .i64 g2]) ∧ Below W.heap.size W W')) (A3 : Hid (∀ W : World, Calls Try.prog 45 #[.int .i64 (N * x + M * z), .int .i64 (D * z)] W fun e W' => e = .returned (.agg #[.int .i64 h1, .int .i64 h2]) ∧ Below W.heap.size W W')) (I1 : Hid (∀ W : World, Calls Try.prog 38 #[.agg #[.int .i64 c1, .int .i64 c2, .int .i64 c3, .int .i64 c4], .agg #[.int .i64 f1, .int .i64 f2]] W fun e W' => e = .returned (.tuple #[.bool true, .int .i64 0]) ∧ Below W.heap.size W W')) (I2 : Hid (∀ W : World, Calls Try.prog 38 #[.agg #[.int .i64 c5, .int .i64 c6, .int .i64 c7, .int .i64 c8], .agg #[.int .i64 g1, .int .i64 g2]] W fun e W' => e = .returned (.tuple #[.bool true, .int .i64 0]) ∧ Below W.heap.size W W')) (I3 : Hid (∀ W : World, Calls Try.prog 38 #[.agg #[.int .i64 r1, .int .i64 r2, .int .i64 r3, .int .i64 r4], .agg #[.int .i64 h1, .int .i64 h2]] W fun e W' => e = .returned (.tuple #[.bool true, .int .i64 0]) ∧ Below W.heap.size W W')) (HF : Hid (∀ W : World, VRow W a n vs → Calls Try.prog 22 #[.slice a n c] W fun e W' => e = .returned (.tuple #[.int .i64 (-1), .int .i64 0]) ∧ Below W.heap.size W W')) :
    Calls Try.prog 8 #[.slice a n c, .int .i16 f, .int .i16 g, .int .i16 d, .int .i64 x, .int .i64 z] w fun e w' => e = .returned (.bool true) ∧ Below w.heap.size w w' := by
  have HN := Lib.hid hn
  clear hn
  go_enter Try.func8, Try.ntmps8
  go_wp2_with fail
  refine (HAl.out _).mono ?_
  rintro e w1 ⟨rfl, hb⟩
  have hBw : Below w.heap.size w w1 := by (repeat' (first | (with_reducible exact Below.refl _ _) | (with_reducible assumption) | (with_reducible refine belowThru ?_ (by assumption)) | (with_reducible refine belowAlloc ?_) | (with_reducible refine Below.setCell ?_ (by first | omega | (simp; done) | (simp; omega)) _) | (with_reducible refine Below.drew ?_) | (with_reducible refine below_drewN ?_ _)))
  have hzw1 := hBw.size
  clear hb
  go_wp2_with fail
  refine (HP.out _).mono ?_
  rintro e w2 ⟨rfl, hb⟩
  replace hBw : Below w.heap.size w w2 := belowThru (by (repeat' (first | (with_reducible exact Below.refl _ _) | (with_reducible assumption) | (with_reducible refine belowThru ?_ (by assumption)) | (with_reducible refine belowAlloc ?_) | (with_reducible refine Below.setCell ?_ (by first | omega | (simp; done) | (simp; omega)) _) | (with_reducible refine Below.drew ?_) | (with_reducible refine below_drewN ?_ _)))) hb
  have hzw2 := hBw.size
  clear hb
  go_wp2_with fail
  have kp : Blk (w2.alloc (.cells #[.int .i64 N, .int .i64 M, .int .i64 D] 75)) w2.heap.size #[.int .i64 N, .int .i64 M, .int .i64 D] 75 := Blk.new rfl
  go_loopw [15, 59] (fun _ i wr => ∃ k : Nat, k ≤ n ∧ i = .int .i64 k ∧ Blk wr w2.heap.size #[.int .i64 N, .int .i64 M, .int .i64 D] 75 ∧ Below w.heap.size w wr) (fun _ i _ => n - (intOf i).toNat)
  case atStart => exact ⟨0, Nat.zero_le _, rfl, by (repeat' (first | (with_reducible assumption) | ((with_reducible refine Blk.new ?_); first | rfl | (simp; done)) | (with_reducible refine Blk.later (by assumption) ?_) | (with_reducible refine Blk.alloc ?_) | (with_reducible refine Blk.drewN ?_) | (with_reducible refine Blk.drew ?_) | (with_reducible refine Blk.other ?_ (by first | omega | (simp; done) | (simp; omega))))), by (repeat' (first | (with_reducible exact Below.refl _ _) | (with_reducible assumption) | (with_reducible refine belowThru ?_ (by assumption)) | (with_reducible refine belowAlloc ?_) | (with_reducible refine Below.setCell ?_ (by first | omega | (simp; done) | (simp; omega)) _) | (with_reducible refine Below.drew ?_) | (with_reducible refine below_drewN ?_ _)))⟩
  case round =>
    clear kp
    obtain ⟨k, hk, rfl, kp, hB⟩ := hrel
    have hn12 := HN.out
    by_cases hlt : k < n
    · obtain ⟨bb, oo, vx, vz, vl, vh, rfl, l1, e1, q1, q2, q3, q4⟩ := HR.out.at hlt
      have q1 := cell_later hB q1
      have q2 := cell_later hB q2
      have q3 := cell_later hB q3
      have q4 := cell_later hB q4
      have u0 : (0 : Int) ≤ (k : Int) := by omega
      have u1 : (k : Int) < (n : Int) := by omega
      have HVk : ∀ W : World, _ := fun W => vview_any (vx, vz, vl, vh) W
      rw [decide_eq_true (HV0.out _ (List.mem_of_getElem? e1))] at HVk
      have HV := Lib.hid HVk; clear HVk e1
      go_wp2_with fail
      refine (HV.out _).mono ?_
      rintro e w9 ⟨rfl, hb⟩
      have kq := Blk.later hb kp; have hB9 := belowThru hB hb
      clear hb
      go_wp2_with fail
      go_roundw
      case rel => exact ⟨k + 1, hlt, by go_num, kq, hB9⟩
      case measure => simp [intOf]; omega
    · obtain rfl : k = n := by omega
      have k0 := kp; clear kp; have hBw := hB; clear hB
      obtain ⟨a0, b0⟩ := k0.read; have y0 := k0.lt
      go_wp2_with fail
      refine (HL.out _ (HR.out.later (by (repeat' (first | (with_reducible exact Below.refl _ _) | (with_reducible assumption) | (with_reducible refine belowThru ?_ (by assumption)) | (with_reducible refine belowAlloc ?_) | (with_reducible refine Below.setCell ?_ (by first | omega | (simp; done) | (simp; omega)) _) | (with_reducible refine Below.drew ?_) | (with_reducible refine below_drewN ?_ _)))))).mono ?_
      rintro e w21 ⟨rfl, hb⟩
      have kn0 : Blk w21 (w2.heap.size) #[.int .i64 N, .int .i64 M, .int .i64 D] 75 := Blk.later hb (by (repeat' (first | (with_reducible assumption) | (with_reducible refine Blk.set2 ?_) | ((with_reducible refine Blk.new ?_); first | rfl | (simp; done)) | (with_reducible refine Blk.later (by assumption) ?_) | (with_reducible refine Blk.alloc ?_) | (with_reducible refine Blk.drewN ?_) | (with_reducible refine Blk.drew ?_) | (with_reducible refine Blk.other ?_ (by first | omega | (simp; done) | (simp; omega))))))
      clear k0 a0 b0 y0
      have k0 := kn0; clear kn0; obtain ⟨a0, b0⟩ := k0.read; have y0 := k0.lt
      replace hBw : Below w.heap.size w w21 := belowThru (by (repeat' (first | (with_reducible exact Below.refl _ _) | (with_reducible assumption) | (with_reducible refine belowThru ?_ (by assumption)) | (with_reducible refine belowAlloc ?_) | (with_reducible refine Below.setCell ?_ (by first | omega | (simp; done) | (simp; omega)) _) | (with_reducible refine Below.drew ?_) | (with_reducible refine below_drewN ?_ _)))) hb
      have hzw21 := hBw.size
      clear hb
      go_wp2_with fail
      refine (HK.out _ (HR.out.later (by (repeat' (first | (with_reducible exact Below.refl _ _) | (with_reducible assumption) | (with_reducible refine belowThru ?_ (by assumption)) | (with_reducible refine belowAlloc ?_) | (with_reducible refine Below.setCell ?_ (by first | omega | (simp; done) | (simp; omega)) _) | (with_reducible refine Below.drew ?_) | (with_reducible refine below_drewN ?_ _)))))).mono ?_
      rintro e w22 ⟨rfl, hb⟩
      have kn0 : Blk w22 (w2.heap.size) #[.int .i64 N, .int .i64 M, .int .i64 D] 75 := Blk.later hb (by (repeat' (first | (with_reducible assumption) | (with_reducible refine Blk.set2 ?_) | ((with_reducible refine Blk.new ?_); first | rfl | (simp; done)) | (with_reducible refine Blk.later (by assumption) ?_) | (with_reducible refine Blk.alloc ?_) | (with_reducible refine Blk.drewN ?_) | (with_reducible refine Blk.drew ?_) | (with_reducible refine Blk.other ?_ (by first | omega | (simp; done) | (simp; omega))))))
      clear k0 a0 b0 y0
      have k0 := kn0; clear kn0; obtain ⟨a0, b0⟩ := k0.read; have y0 := k0.lt
      replace hBw : Below w.heap.size w w22 := belowThru (by (repeat' (first | (with_reducible exact Below.refl _ _) | (with_reducible assumption) | (with_reducible refine belowThru ?_ (by assumption)) | (with_reducible refine belowAlloc ?_) | (with_reducible refine Below.setCell ?_ (by first | omega | (simp; done) | (simp; omega)) _) | (with_reducible refine Below.drew ?_) | (with_reducible refine below_drewN ?_ _)))) hb
      have hzw22 := hBw.size
      clear hb
      go_wp2_with fail
      refine (HC.out _ (HR.out.later (by (repeat' (first | (with_reducible exact Below.refl _ _) | (with_reducible assumption) | (with_reducible refine belowThru ?_ (by assumption)) | (with_reducible refine belowAlloc ?_) | (with_reducible refine Below.setCell ?_ (by first | omega | (simp; done) | (simp; omega)) _) | (with_reducible refine Below.drew ?_) | (with_reducible refine below_drewN ?_ _)))))).mono ?_
      rintro e w23 ⟨rfl, hb⟩
      have kn0 : Blk w23 (w2.heap.size) #[.int .i64 N, .int .i64 M, .int .i64 D] 75 := Blk.later hb (by (repeat' (first | (with_reducible assumption) | (with_reducible refine Blk.set2 ?_) | ((with_reducible refine Blk.new ?_); first | rfl | (simp; done)) | (with_reducible refine Blk.later (by assumption) ?_) | (with_reducible refine Blk.alloc ?_) | (with_reducible refine Blk.drewN ?_) | (with_reducible refine Blk.drew ?_) | (with_reducible refine Blk.other ?_ (by first | omega | (simp; done) | (simp; omega))))))
      clear k0 a0 b0 y0
      have k0 := kn0; clear kn0; obtain ⟨a0, b0⟩ := k0.read; have y0 := k0.lt
      replace hBw : Below w.heap.size w w23 := belowThru (by (repeat' (first | (with_reducible exact Below.refl _ _) | (with_reducible assumption) | (with_reducible refine belowThru ?_ (by assumption)) | (with_reducible refine belowAlloc ?_) | (with_reducible refine Below.setCell ?_ (by first | omega | (simp; done) | (simp; omega)) _) | (with_reducible refine Below.drew ?_) | (with_reducible refine below_drewN ?_ _)))) hb
      have hzw23 := hBw.size
      clear hb
      go_wp2_with fail
      refine (HG.out _ (HR.out.later (by (repeat' (first | (with_reducible exact Below.refl _ _) | (with_reducible assumption) | (with_reducible refine belowThru ?_ (by assumption)) | (with_reducible refine belowAlloc ?_) | (with_reducible refine Below.setCell ?_ (by first | omega | (simp; done) | (simp; omega)) _) | (with_reducible refine Below.drew ?_) | (with_reducible refine below_drewN ?_ _)))))).mono ?_
      rintro e w24 ⟨rfl, hb⟩
      have kn0 : Blk w24 (w2.heap.size) #[.int .i64 N, .int .i64 M, .int .i64 D] 75 := Blk.later hb (by (repeat' (first | (with_reducible assumption) | (with_reducible refine Blk.set2 ?_) | ((with_reducible refine Blk.new ?_); first | rfl | (simp; done)) | (with_reducible refine Blk.later (by assumption) ?_) | (with_reducible refine Blk.alloc ?_) | (with_reducible refine Blk.drewN ?_) | (with_reducible refine Blk.drew ?_) | (with_reducible refine Blk.other ?_ (by first | omega | (simp; done) | (simp; omega))))))
      have kn1 : Blk w24 (w23.heap.size) #[.int .i64 c1, .int .i64 c2, .int .i64 c3, .int .i64 c4, .int .i64 c5, .int .i64 c6, .int .i64 c7, .int .i64 c8] 41 := Blk.later hb (by (repeat' (first | (with_reducible assumption) | (with_reducible refine Blk.set2 ?_) | ((with_reducible refine Blk.new ?_); first | rfl | (simp; done)) | (with_reducible refine Blk.later (by assumption) ?_) | (with_reducible refine Blk.alloc ?_) | (with_reducible refine Blk.drewN ?_) | (with_reducible refine Blk.drew ?_) | (with_reducible refine Blk.other ?_ (by first | omega | (simp; done) | (simp; omega))))))
      clear k0 a0 b0 y0
      have k0 := kn0; clear kn0; obtain ⟨a0, b0⟩ := k0.read; have y0 := k0.lt
      have k1 := kn1; clear kn1; obtain ⟨a1, b1⟩ := k1.read; have y1 := k1.lt
      replace hBw : Below w.heap.size w w24 := belowThru (by (repeat' (first | (with_reducible exact Below.refl _ _) | (with_reducible assumption) | (with_reducible refine belowThru ?_ (by assumption)) | (with_reducible refine belowAlloc ?_) | (with_reducible refine Below.setCell ?_ (by first | omega | (simp; done) | (simp; omega)) _) | (with_reducible refine Below.drew ?_) | (with_reducible refine below_drewN ?_ _)))) hb
      have hzw24 := hBw.size
      clear hb
      go_wp2_with fail
      obtain ⟨Wp, hWp⟩ : ∃ Wp, (w24.alloc (.cells #[.int .i64 r1, .int .i64 r2, .int .i64 r3, .int .i64 r4] 35)) = Wp := ⟨_, rfl⟩
      have kn0 : Blk Wp (w2.heap.size) #[.int .i64 N, .int .i64 M, .int .i64 D] 75 := by rw [← hWp]; (repeat' (first | (with_reducible assumption) | ((with_reducible refine Blk.new ?_); first | rfl | (simp; done)) | (with_reducible refine Blk.later (by assumption) ?_) | (with_reducible refine Blk.alloc ?_) | (with_reducible refine Blk.drewN ?_) | (with_reducible refine Blk.drew ?_) | (with_reducible refine Blk.other ?_ (by first | omega | (simp; done) | (simp; omega)))))
      have kn1 : Blk Wp (w23.heap.size) #[.int .i64 c1, .int .i64 c2, .int .i64 c3, .int .i64 c4, .int .i64 c5, .int .i64 c6, .int .i64 c7, .int .i64 c8] 41 := by rw [← hWp]; (repeat' (first | (with_reducible assumption) | ((with_reducible refine Blk.new ?_); first | rfl | (simp; done)) | (with_reducible refine Blk.later (by assumption) ?_) | (with_reducible refine Blk.alloc ?_) | (with_reducible refine Blk.drewN ?_) | (with_reducible refine Blk.drew ?_) | (with_reducible refine Blk.other ?_ (by first | omega | (simp; done) | (simp; omega)))))
      have kn2 : Blk Wp (w24.heap.size) #[.int .i64 r1, .int .i64 r2, .int .i64 r3, .int .i64 r4] 35 := by rw [← hWp]; (repeat' (first | (with_reducible assumption) | ((with_reducible refine Blk.new ?_); first | rfl | (simp; done)) | (with_reducible refine Blk.later (by assumption) ?_) | (with_reducible refine Blk.alloc ?_) | (with_reducible refine Blk.drewN ?_) | (with_reducible refine Blk.drew ?_) | (with_reducible refine Blk.other ?_ (by first | omega | (simp; done) | (simp; omega)))))
      replace hBw : Below w.heap.size w Wp := by rw [← hWp]; (repeat' (first | (with_reducible exact Below.refl _ _) | (with_reducible assumption) | (with_reducible refine belowThru ?_ (by assumption)) | (with_reducible refine belowAlloc ?_) | (with_reducible refine Below.setCell ?_ (by first | omega | (simp; done) | (simp; omega)) _) | (with_reducible refine Below.drew ?_) | (with_reducible refine below_drewN ?_ _)))
      clear k0 a0 b0 y0
      clear k1 a1 b1 y1
      rw [hWp]
      clear hWp
      have k0 := kn0; clear kn0; have y0 := k0.lt
      have k1 := kn1; clear kn1; have y1 := k1.lt
      have k2 := kn2; clear kn2; have y2 := k2.lt
      go_cut [20, 21] (fun s20 s21 wx => s20 = .bool true ∧ s21 = .int .i64 0 ∧ Below Wp.heap.size Wp wx)
      case first =>
        go_region_held3 (fun w' => (Blk w' (w2.heap.size) #[.int .i64 N, .int .i64 M, .int .i64 D] 75 ∧ (∀ i : Nat, w'.cell? ⟨w2.heap.size, i, none⟩ = (#[.int .i64 N, .int .i64 M, .int .i64 D] : Array Value)[i]?)) ∧ (Blk w' (w23.heap.size) #[.int .i64 c1, .int .i64 c2, .int .i64 c3, .int .i64 c4, .int .i64 c5, .int .i64 c6, .int .i64 c7, .int .i64 c8] 41 ∧ (∀ i : Nat, w'.cell? ⟨w23.heap.size, i, none⟩ = (#[.int .i64 c1, .int .i64 c2, .int .i64 c3, .int .i64 c4, .int .i64 c5, .int .i64 c6, .int .i64 c7, .int .i64 c8] : Array Value)[i]?)) ∧ (Blk w' (w24.heap.size) #[.int .i64 r1, .int .i64 r2, .int .i64 r3, .int .i64 r4] 35 ∧ (∀ i : Nat, w'.cell? ⟨w24.heap.size, i, none⟩ = (#[.int .i64 r1, .int .i64 r2, .int .i64 r3, .int .i64 r4] : Array Value)[i]?)) ∧ Below Wp.heap.size Wp w')
          (((first | (apply holdO3; (focus assumption); intro p0 p1 p2 pB) | skip); refine ⟨Blk.full ?_, Blk.full ?_, Blk.full ?_, ?_⟩; all_goals (first | ((repeat' (first | (with_reducible assumption) | ((with_reducible refine Blk.new ?_); first | rfl | (simp; done)) | (with_reducible refine Blk.later (by assumption) ?_) | (with_reducible refine Blk.alloc ?_) | (with_reducible refine Blk.drewN ?_) | (with_reducible refine Blk.drew ?_) | (with_reducible refine Blk.other ?_ (by first | omega | (simp; done) | (simp; omega))))); done) | ((repeat' (first | (with_reducible exact Below.refl _ _) | (with_reducible assumption) | (with_reducible refine belowThru ?_ (by assumption)) | (with_reducible refine belowAlloc ?_) | (with_reducible refine Below.setCell ?_ (by first | omega | (simp; done) | (simp; omega)) _) | (with_reducible refine Below.drew ?_) | (with_reducible refine below_drewN ?_ _))); done) | exact Below.refl _ _)))
          (first
          | (go_at_call 45; (with_reducible refine (A1.out _).mono ?_); rintro e w1 ⟨rfl, hb⟩)
          | (go_at_call 38; (with_reducible refine (I1.out _).mono ?_); rintro e w1 ⟨rfl, hb⟩))
        all_goals
          apply holdO3; (focus assumption); intro p0 p1 p2 pB
          go_wp2_with fail
          go_meet
          exact ⟨rfl, rfl, pB⟩
      case rest =>
        obtain ⟨rfl, rfl, hb⟩ := hcut
        obtain ⟨w25, rfl⟩ : ∃ z, z = wc := ⟨_, rfl⟩
        replace k0 := Blk.later hb k0; clear y0; obtain ⟨a0, b0⟩ := k0.read; have y0 := k0.lt
        replace k1 := Blk.later hb k1; clear y1; obtain ⟨a1, b1⟩ := k1.read; have y1 := k1.lt
        replace k2 := Blk.later hb k2; clear y2; obtain ⟨a2, b2⟩ := k2.read; have y2 := k2.lt
        replace hBw : Below w.heap.size w w25 := belowThru hBw hb
        have hzw25 := hBw.size
        clear hb
        go_wp2_with fail
        obtain ⟨Wp, rfl⟩ : ∃ Wp, Wp = w25 := ⟨_, rfl⟩
        clear a0 b0 y0; have y0 := k0.lt
        clear a1 b1 y1; have y1 := k1.lt
        clear a2 b2 y2; have y2 := k2.lt
        go_cut [22, 23] (fun s22 s23 wx => s22 = .bool true ∧ s23 = .int .i64 0 ∧ Below Wp.heap.size Wp wx)
        case first =>
          go_region_held3 (fun w' => (Blk w' (w2.heap.size) #[.int .i64 N, .int .i64 M, .int .i64 D] 75 ∧ (∀ i : Nat, w'.cell? ⟨w2.heap.size, i, none⟩ = (#[.int .i64 N, .int .i64 M, .int .i64 D] : Array Value)[i]?)) ∧ (Blk w' (w23.heap.size) #[.int .i64 c1, .int .i64 c2, .int .i64 c3, .int .i64 c4, .int .i64 c5, .int .i64 c6, .int .i64 c7, .int .i64 c8] 41 ∧ (∀ i : Nat, w'.cell? ⟨w23.heap.size, i, none⟩ = (#[.int .i64 c1, .int .i64 c2, .int .i64 c3, .int .i64 c4, .int .i64 c5, .int .i64 c6, .int .i64 c7, .int .i64 c8] : Array Value)[i]?)) ∧ (Blk w' (w24.heap.size) #[.int .i64 r1, .int .i64 r2, .int .i64 r3, .int .i64 r4] 35 ∧ (∀ i : Nat, w'.cell? ⟨w24.heap.size, i, none⟩ = (#[.int .i64 r1, .int .i64 r2, .int .i64 r3, .int .i64 r4] : Array Value)[i]?)) ∧ Below Wp.heap.size Wp w')
            (((first | (apply holdO3; (focus assumption); intro p0 p1 p2 pB) | skip); refine ⟨Blk.full ?_, Blk.full ?_, Blk.full ?_, ?_⟩; all_goals (first | ((repeat' (first | (with_reducible assumption) | ((with_reducible refine Blk.new ?_); first | rfl | (simp; done)) | (with_reducible refine Blk.later (by assumption) ?_) | (with_reducible refine Blk.alloc ?_) | (with_reducible refine Blk.drewN ?_) | (with_reducible refine Blk.drew ?_) | (with_reducible refine Blk.other ?_ (by first | omega | (simp; done) | (simp; omega))))); done) | ((repeat' (first | (with_reducible exact Below.refl _ _) | (with_reducible assumption) | (with_reducible refine belowThru ?_ (by assumption)) | (with_reducible refine belowAlloc ?_) | (with_reducible refine Below.setCell ?_ (by first | omega | (simp; done) | (simp; omega)) _) | (with_reducible refine Below.drew ?_) | (with_reducible refine below_drewN ?_ _))); done) | exact Below.refl _ _)))
            (first
            | (go_at_call 45; (with_reducible refine (A2.out _).mono ?_); rintro e w1 ⟨rfl, hb⟩)
            | (go_at_call 38; (with_reducible refine (I2.out _).mono ?_); rintro e w1 ⟨rfl, hb⟩))
          all_goals
            apply holdO3; (focus assumption); intro p0 p1 p2 pB
            go_wp2_with fail
            go_meet
            exact ⟨rfl, rfl, pB⟩
        case rest =>
          obtain ⟨rfl, rfl, hb⟩ := hcut
          obtain ⟨w26, rfl⟩ : ∃ z, z = wc := ⟨_, rfl⟩
          replace k0 := Blk.later hb k0; clear y0; obtain ⟨a0, b0⟩ := k0.read; have y0 := k0.lt
          replace k1 := Blk.later hb k1; clear y1; obtain ⟨a1, b1⟩ := k1.read; have y1 := k1.lt
          replace k2 := Blk.later hb k2; clear y2; obtain ⟨a2, b2⟩ := k2.read; have y2 := k2.lt
          replace hBw : Below w.heap.size w w26 := belowThru hBw hb
          have hzw26 := hBw.size
          clear hb
          go_wp2_with fail
          obtain ⟨Wp, rfl⟩ : ∃ Wp, Wp = w26 := ⟨_, rfl⟩
          clear a0 b0 y0; have y0 := k0.lt
          clear a1 b1 y1; have y1 := k1.lt
          clear a2 b2 y2; have y2 := k2.lt
          go_cut [24, 25] (fun s24 s25 wx => s24 = .bool true ∧ s25 = .int .i64 0 ∧ Below Wp.heap.size Wp wx)
          case first =>
            go_region_held3 (fun w' => (Blk w' (w2.heap.size) #[.int .i64 N, .int .i64 M, .int .i64 D] 75 ∧ (∀ i : Nat, w'.cell? ⟨w2.heap.size, i, none⟩ = (#[.int .i64 N, .int .i64 M, .int .i64 D] : Array Value)[i]?)) ∧ (Blk w' (w23.heap.size) #[.int .i64 c1, .int .i64 c2, .int .i64 c3, .int .i64 c4, .int .i64 c5, .int .i64 c6, .int .i64 c7, .int .i64 c8] 41 ∧ (∀ i : Nat, w'.cell? ⟨w23.heap.size, i, none⟩ = (#[.int .i64 c1, .int .i64 c2, .int .i64 c3, .int .i64 c4, .int .i64 c5, .int .i64 c6, .int .i64 c7, .int .i64 c8] : Array Value)[i]?)) ∧ (Blk w' (w24.heap.size) #[.int .i64 r1, .int .i64 r2, .int .i64 r3, .int .i64 r4] 35 ∧ (∀ i : Nat, w'.cell? ⟨w24.heap.size, i, none⟩ = (#[.int .i64 r1, .int .i64 r2, .int .i64 r3, .int .i64 r4] : Array Value)[i]?)) ∧ Below Wp.heap.size Wp w')
              (((first | (apply holdO3; (focus assumption); intro p0 p1 p2 pB) | skip); refine ⟨Blk.full ?_, Blk.full ?_, Blk.full ?_, ?_⟩; all_goals (first | ((repeat' (first | (with_reducible assumption) | ((with_reducible refine Blk.new ?_); first | rfl | (simp; done)) | (with_reducible refine Blk.later (by assumption) ?_) | (with_reducible refine Blk.alloc ?_) | (with_reducible refine Blk.drewN ?_) | (with_reducible refine Blk.drew ?_) | (with_reducible refine Blk.other ?_ (by first | omega | (simp; done) | (simp; omega))))); done) | ((repeat' (first | (with_reducible exact Below.refl _ _) | (with_reducible assumption) | (with_reducible refine belowThru ?_ (by assumption)) | (with_reducible refine belowAlloc ?_) | (with_reducible refine Below.setCell ?_ (by first | omega | (simp; done) | (simp; omega)) _) | (with_reducible refine Below.drew ?_) | (with_reducible refine below_drewN ?_ _))); done) | exact Below.refl _ _)))
              (first
              | (go_at_call 45; (with_reducible refine (A3.out _).mono ?_); rintro e w1 ⟨rfl, hb⟩)
              | (go_at_call 38; (with_reducible refine (I3.out _).mono ?_); rintro e w1 ⟨rfl, hb⟩))
            all_goals
              apply holdO3; (focus assumption); intro p0 p1 p2 pB
              go_wp2_with fail
              go_meet
              exact ⟨rfl, rfl, pB⟩
          case rest =>
            obtain ⟨rfl, rfl, hb⟩ := hcut
            obtain ⟨w27, rfl⟩ : ∃ z, z = wc := ⟨_, rfl⟩
            replace k0 := Blk.later hb k0; clear y0; obtain ⟨a0, b0⟩ := k0.read; have y0 := k0.lt
            replace k1 := Blk.later hb k1; clear y1; obtain ⟨a1, b1⟩ := k1.read; have y1 := k1.lt
            replace k2 := Blk.later hb k2; clear y2; obtain ⟨a2, b2⟩ := k2.read; have y2 := k2.lt
            replace hBw : Below w.heap.size w w27 := belowThru hBw hb
            have hzw27 := hBw.size
            clear hb
            go_wp2_with fail
            refine (HF.out _ (HR.out.later (by (repeat' (first | (with_reducible exact Below.refl _ _) | (with_reducible assumption) | (with_reducible refine belowThru ?_ (by assumption)) | (with_reducible refine belowAlloc ?_) | (with_reducible refine Below.setCell ?_ (by first | omega | (simp; done) | (simp; omega)) _) | (with_reducible refine Below.drew ?_) | (with_reducible refine below_drewN ?_ _)))))).mono ?_
            rintro e w28 ⟨rfl, hb⟩
            have kn0 : Blk w28 (w2.heap.size) #[.int .i64 N, .int .i64 M, .int .i64 D] 75 := Blk.later hb (by (repeat' (first | (with_reducible assumption) | (with_reducible refine Blk.set2 ?_) | ((with_reducible refine Blk.new ?_); first | rfl | (simp; done)) | (with_reducible refine Blk.later (by assumption) ?_) | (with_reducible refine Blk.alloc ?_) | (with_reducible refine Blk.drewN ?_) | (with_reducible refine Blk.drew ?_) | (with_reducible refine Blk.other ?_ (by first | omega | (simp; done) | (simp; omega))))))
            have kn1 : Blk w28 (w23.heap.size) #[.int .i64 c1, .int .i64 c2, .int .i64 c3, .int .i64 c4, .int .i64 c5, .int .i64 c6, .int .i64 c7, .int .i64 c8] 41 := Blk.later hb (by (repeat' (first | (with_reducible assumption) | (with_reducible refine Blk.set2 ?_) | ((with_reducible refine Blk.new ?_); first | rfl | (simp; done)) | (with_reducible refine Blk.later (by assumption) ?_) | (with_reducible refine Blk.alloc ?_) | (with_reducible refine Blk.drewN ?_) | (with_reducible refine Blk.drew ?_) | (with_reducible refine Blk.other ?_ (by first | omega | (simp; done) | (simp; omega))))))
            have kn2 : Blk w28 (w24.heap.size) #[.int .i64 r1, .int .i64 r2, .int .i64 r3, .int .i64 r4] 35 := Blk.later hb (by (repeat' (first | (with_reducible assumption) | (with_reducible refine Blk.set2 ?_) | ((with_reducible refine Blk.new ?_); first | rfl | (simp; done)) | (with_reducible refine Blk.later (by assumption) ?_) | (with_reducible refine Blk.alloc ?_) | (with_reducible refine Blk.drewN ?_) | (with_reducible refine Blk.drew ?_) | (with_reducible refine Blk.other ?_ (by first | omega | (simp; done) | (simp; omega))))))
            clear k0 a0 b0 y0
            clear k1 a1 b1 y1
            clear k2 a2 b2 y2
            have k0 := kn0; clear kn0; obtain ⟨a0, b0⟩ := k0.read; have y0 := k0.lt
            have k1 := kn1; clear kn1; obtain ⟨a1, b1⟩ := k1.read; have y1 := k1.lt
            have k2 := kn2; clear kn2; obtain ⟨a2, b2⟩ := k2.read; have y2 := k2.lt
            replace hBw : Below w.heap.size w w28 := belowThru (by (repeat' (first | (with_reducible exact Below.refl _ _) | (with_reducible assumption) | (with_reducible refine belowThru ?_ (by assumption)) | (with_reducible refine belowAlloc ?_) | (with_reducible refine Below.setCell ?_ (by first | omega | (simp; done) | (simp; omega)) _) | (with_reducible refine Below.drew ?_) | (with_reducible refine below_drewN ?_ _)))) hb
            have hzw28 := hBw.size
            clear hb
            go_wp2_with fail
            go_ret
            exact ⟨rfl, by (repeat' (first | (with_reducible exact Below.refl _ _) | (with_reducible assumption) | (with_reducible refine belowThru ?_ (by assumption)) | (with_reducible refine belowAlloc ?_) | (with_reducible refine Below.setCell ?_ (by first | omega | (simp; done) | (simp; omega)) _) | (with_reducible refine Below.drew ?_) | (with_reducible refine below_drewN ?_ _)))⟩
end Go.Proofs.Ytbdcmdofmokoeaa
