/-
  The law GaugeTrue: the walk.
-/
import Derived.Test.YtbcgebobfnclnaaQGLawTru
namespace Go.Proofs.Ytbcgebobfnclnaa
open Go.RowKit Go.Shelf
set_option linter.unusedVariables false
set_option linter.unusedSimpArgs false

set_option maxRecDepth 100000 in
set_option maxHeartbeats 16000000 in
theorem true_at (t nz s1 s2 s3 s4 l1 l2 h1 h2 : Int) (a : Option Addr) (n c : Nat) (zs : List Int) (a2 : Option Addr) (m2 c2 : Nat) (ms : List Int) (w : World) (hR : Row w a n (iv zs)) (hR2 : Row w a2 m2 (hv ms)) (hl : n ≤ 64) (L K : List Int) (B I Kn : Bool) (Z1 Z2 Z3 Z4 T M A1 A2 C1 C2 Y1 Y2 Y3 Y4 Y5 Y6 p1 p2 q1 q2 : Int) (hT : IntKind.i64.wrap (4 * t) = T) (hM : IntKind.i64.wrap ((n : Int) - 1) = M) (hY1 : IntKind.i64.wrap (M * C2) = Y1) (hY2 : IntKind.i64.wrap (Y1 - C1) = Y2) (hY3 : IntKind.i64.wrap (Y2 * A2) = Y3) (hY4 : IntKind.i64.wrap (A1 * C2) = Y4) (hY5 : IntKind.i64.wrap (Y3 - Y4) = Y5) (hY6 : IntKind.i64.wrap (A2 * C2) = Y6) (HM : Hid (∀ w : World, Row w a n (iv zs) → Calls Try.prog 27 #[.agg #[.int .i64 t, .int .i64 nz, .int .i64 s1, .int .i64 s2, .int .i64 s3, .int .i64 s4, .int .i64 l1, .int .i64 l2, .int .i64 h1, .int .i64 h2], .slice a n c] w fun e w' => e = .returned (.tuple #[.agg #[.int .i64 Z1, .int .i64 Z2, .int .i64 Z3, .int .i64 Z4], .int .u8 1, .int .i64 0]) ∧ Below w.heap.size w w')) (HG : Hid (∀ w : World, Calls Try.prog 56 #[.agg #[.int .i64 t, .int .i64 nz, .int .i64 s1, .int .i64 s2, .int .i64 s3, .int .i64 s4, .int .i64 l1, .int .i64 l2, .int .i64 h1, .int .i64 h2]] w fun e w' => e = .returned (.bool true) ∧ Below w.heap.size w w')) (HV : Hid (∀ w : World, Row w a n (iv zs) → Calls Try.prog 51 #[.slice a n c] w fun e w' => e = .returned (.bool true) ∧ Below w.heap.size w w')) (HAL : Hid (∀ w : World, Row w a n (iv zs) → Row w a2 m2 (hv ms) → Calls Try.prog 52 #[.slice a n c, .slice a2 m2 c2, .int .i64 nz] w fun e w' => ∃ v c', e = .returned (.slice v n c') ∧ Row w' v n (iv L) ∧ Below w.heap.size w w')) (HRV : Hid (∀ (v : Option Addr) (c : Nat) (w : World), Row w v n (iv L) → Calls Try.prog 49 #[.slice v n c] w fun e w' => ∃ v' c', e = .returned (.slice v' n c') ∧ Row w' v' n (iv K) ∧ Below w.heap.size w w')) (HA : Hid (∀ (v : Option Addr) (c : Nat) (w : World), Row w v n (iv L) → Calls Try.prog 53 #[.slice v n c, .int .i64 T, .int .i64 0] w fun e w' => e = .returned (.tuple #[.int .i64 A1, .int .i64 A2, .bool true]) ∧ Below w.heap.size w w')) (HC : Hid (∀ (v : Option Addr) (c : Nat) (w : World), Row w v n (iv K) → Calls Try.prog 53 #[.slice v n c, .int .i64 T, .int .i64 0] w fun e w' => e = .returned (.tuple #[.int .i64 C1, .int .i64 C2, .bool B]) ∧ Below w.heap.size w w')) (HMk : Hid (∀ w : World, Calls Try.prog 57 #[.int .i64 Y5, .int .i64 Y6] w fun e w' => e = .returned (.tuple #[.agg #[.int .i64 p1, .int .i64 p2], .int .i64 0]) ∧ Below w.heap.size w w')) (HMu : Hid (∀ w : World, Calls Try.prog 58 #[.agg #[.int .i64 p1, .int .i64 p2], .agg #[.int .i64 s3, .int .i64 s4]] w fun e w' => e = .returned (.tuple #[.agg #[.int .i64 q1, .int .i64 q2], .int .i64 0]) ∧ Below w.heap.size w w')) (HI : Hid (∀ w : World, Calls Try.prog 59 #[.agg #[.int .i64 l1, .int .i64 l2, .int .i64 h1, .int .i64 h2], .agg #[.int .i64 q1, .int .i64 q2]] w fun e w' => e = .returned (.tuple #[.bool true, .int .i64 0]) ∧ Below w.heap.size w w')) (HJ : Hid (∀ w : World, Calls Try.prog 59 #[.agg #[.int .i64 Z1, .int .i64 Z2, .int .i64 Z3, .int .i64 Z4], .agg #[.int .i64 q1, .int .i64 q2]] w fun e w' => e = .returned (.tuple #[.bool true, .int .i64 0]) ∧ Below w.heap.size w w')) :
    Calls Try.prog 13 #[.agg #[.int .i64 t, .int .i64 nz, .int .i64 s1, .int .i64 s2, .int .i64 s3, .int .i64 s4, .int .i64 l1, .int .i64 l2, .int .i64 h1, .int .i64 h2], .slice a n c, .slice a2 m2 c2, .bool true] w fun e w' => e = .returned (.bool true) ∧ Below w.heap.size w w' := by
  have hd : decide (64 < (n : Int)) = false := by simp; omega
  have HF := Lib.hid (frac_lit 0 1 ⟨by kernel_rfl, by kernel_rfl⟩ (by decide))
  have hmx : Try.prog.follows .mixedOrders = true := by kernel_rfl
  have HR := Lib.hid hR
  clear hR
  have HR2 := Lib.hid hR2
  clear hR2
  go_enter Try.func13, Try.ntmps13
  go_wp2_with fail
  refine (alive_true _).mono ?_
  rintro e w1 ⟨rfl, hb⟩
  have kn0 : Blk w1 (w.heap.size) #[.int .i64 t, .int .i64 nz, .int .i64 s1, .int .i64 s2, .int .i64 s3, .int .i64 s4, .int .i64 l1, .int .i64 l2, .int .i64 h1, .int .i64 h2] 41 := Blk.later hb (by (repeat' first | (with_reducible assumption) | ((with_reducible refine Blk.new ?_); first | rfl | (simp; done)) | (with_reducible refine Blk.alloc ?_)))
  have k0 := kn0; clear kn0; obtain ⟨a0, b0⟩ := k0.read; have y0 := k0.lt
  have hBw : Below w.heap.size w w1 := by (repeat' first | (with_reducible exact Below.refl _ _) | (with_reducible assumption) | (with_reducible refine belowThru ?_ (by assumption)) | (with_reducible refine belowAlloc ?_))
  have hzw1 := hBw.size
  clear hb
  go_wp2_with fail
  refine (HM.out _ (HR.out.later (by (repeat' first | (with_reducible exact Below.refl _ _) | (with_reducible assumption) | (with_reducible refine belowThru ?_ (by assumption)) | (with_reducible refine belowAlloc ?_))))).mono ?_
  rintro e w2 ⟨rfl, hb⟩
  have kn0 : Blk w2 (w.heap.size) #[.int .i64 t, .int .i64 nz, .int .i64 s1, .int .i64 s2, .int .i64 s3, .int .i64 s4, .int .i64 l1, .int .i64 l2, .int .i64 h1, .int .i64 h2] 41 := Blk.later hb (by (repeat' first | (with_reducible assumption) | ((with_reducible refine Blk.new ?_); first | rfl | (simp; done)) | (with_reducible refine Blk.alloc ?_)))
  clear k0 a0 b0 y0
  have k0 := kn0; clear kn0; obtain ⟨a0, b0⟩ := k0.read; have y0 := k0.lt
  replace hBw : Below w.heap.size w w2 := belowThru (by (repeat' first | (with_reducible exact Below.refl _ _) | (with_reducible assumption) | (with_reducible refine belowThru ?_ (by assumption)) | (with_reducible refine belowAlloc ?_))) hb
  have hzw2 := hBw.size
  clear hb
  go_wp2_with fail
  refine (HG.out _).mono ?_
  rintro e w3 ⟨rfl, hb⟩
  have kn0 : Blk w3 (w.heap.size) #[.int .i64 t, .int .i64 nz, .int .i64 s1, .int .i64 s2, .int .i64 s3, .int .i64 s4, .int .i64 l1, .int .i64 l2, .int .i64 h1, .int .i64 h2] 41 := Blk.later hb (by (repeat' first | (with_reducible assumption) | ((with_reducible refine Blk.new ?_); first | rfl | (simp; done)) | (with_reducible refine Blk.alloc ?_)))
  have kn1 : Blk w3 (w2.heap.size) #[.int .i64 Z1, .int .i64 Z2, .int .i64 Z3, .int .i64 Z4] 30 := Blk.later hb (by (repeat' first | (with_reducible assumption) | ((with_reducible refine Blk.new ?_); first | rfl | (simp; done)) | (with_reducible refine Blk.alloc ?_)))
  clear k0 a0 b0 y0
  have k0 := kn0; clear kn0; obtain ⟨a0, b0⟩ := k0.read; have y0 := k0.lt
  have k1 := kn1; clear kn1; obtain ⟨a1, b1⟩ := k1.read; have y1 := k1.lt
  replace hBw : Below w.heap.size w w3 := belowThru (by (repeat' first | (with_reducible exact Below.refl _ _) | (with_reducible assumption) | (with_reducible refine belowThru ?_ (by assumption)) | (with_reducible refine belowAlloc ?_))) hb
  have hzw3 := hBw.size
  clear hb
  go_wp2_with fail
  refine (HV.out _ (HR.out.later (by (repeat' first | (with_reducible exact Below.refl _ _) | (with_reducible assumption) | (with_reducible refine belowThru ?_ (by assumption)) | (with_reducible refine belowAlloc ?_))))).mono ?_
  rintro e w4 ⟨rfl, hb⟩
  have kn0 : Blk w4 (w.heap.size) #[.int .i64 t, .int .i64 nz, .int .i64 s1, .int .i64 s2, .int .i64 s3, .int .i64 s4, .int .i64 l1, .int .i64 l2, .int .i64 h1, .int .i64 h2] 41 := Blk.later hb (by (repeat' first | (with_reducible assumption) | ((with_reducible refine Blk.new ?_); first | rfl | (simp; done)) | (with_reducible refine Blk.alloc ?_)))
  have kn1 : Blk w4 (w2.heap.size) #[.int .i64 Z1, .int .i64 Z2, .int .i64 Z3, .int .i64 Z4] 30 := Blk.later hb (by (repeat' first | (with_reducible assumption) | ((with_reducible refine Blk.new ?_); first | rfl | (simp; done)) | (with_reducible refine Blk.alloc ?_)))
  clear k0 a0 b0 y0
  clear k1 a1 b1 y1
  have k0 := kn0; clear kn0; obtain ⟨a0, b0⟩ := k0.read; have y0 := k0.lt
  have k1 := kn1; clear kn1; obtain ⟨a1, b1⟩ := k1.read; have y1 := k1.lt
  replace hBw : Below w.heap.size w w4 := belowThru (by (repeat' first | (with_reducible exact Below.refl _ _) | (with_reducible assumption) | (with_reducible refine belowThru ?_ (by assumption)) | (with_reducible refine belowAlloc ?_))) hb
  have hzw4 := hBw.size
  clear hb
  go_wp2_with fail
  refine (HAL.out _ (HR.out.later (by (repeat' first | (with_reducible exact Below.refl _ _) | (with_reducible assumption) | (with_reducible refine belowThru ?_ (by assumption)) | (with_reducible refine belowAlloc ?_)))) (HR2.out.later (by (repeat' first | (with_reducible exact Below.refl _ _) | (with_reducible assumption) | (with_reducible refine belowThru ?_ (by assumption)) | (with_reducible refine belowAlloc ?_))))).mono ?_
  rintro e w5 ⟨v, c', rfl, hRow, hb⟩
  have HQ := Lib.hid hRow
  clear hRow
  have kn0 : Blk w5 (w.heap.size) #[.int .i64 t, .int .i64 nz, .int .i64 s1, .int .i64 s2, .int .i64 s3, .int .i64 s4, .int .i64 l1, .int .i64 l2, .int .i64 h1, .int .i64 h2] 41 := Blk.later hb (by (repeat' first | (with_reducible assumption) | ((with_reducible refine Blk.new ?_); first | rfl | (simp; done)) | (with_reducible refine Blk.alloc ?_)))
  have kn1 : Blk w5 (w2.heap.size) #[.int .i64 Z1, .int .i64 Z2, .int .i64 Z3, .int .i64 Z4] 30 := Blk.later hb (by (repeat' first | (with_reducible assumption) | ((with_reducible refine Blk.new ?_); first | rfl | (simp; done)) | (with_reducible refine Blk.alloc ?_)))
  clear k0 a0 b0 y0
  clear k1 a1 b1 y1
  have k0 := kn0; clear kn0; obtain ⟨a0, b0⟩ := k0.read; have y0 := k0.lt
  have k1 := kn1; clear kn1; obtain ⟨a1, b1⟩ := k1.read; have y1 := k1.lt
  replace hBw : Below w.heap.size w w5 := belowThru (by (repeat' first | (with_reducible exact Below.refl _ _) | (with_reducible assumption) | (with_reducible refine belowThru ?_ (by assumption)) | (with_reducible refine belowAlloc ?_))) hb
  have hzw5 := hBw.size
  clear hb
  have hb1 : Below w5.heap.size w5 w5 := Below.refl _ _
  go_wp2_with fail
  refine (HA.out _ _ _ (HQ.out.later (by (repeat' first | (with_reducible exact Below.refl _ _) | (with_reducible assumption) | (with_reducible refine belowThru ?_ (by assumption)) | (with_reducible refine belowAlloc ?_))))).mono ?_
  rintro e w6 ⟨rfl, hb⟩
  replace hb1 : Below w5.heap.size w5 w6 := belowThru (by (repeat' first | (with_reducible exact Below.refl _ _) | (with_reducible assumption) | (with_reducible refine belowThru ?_ (by assumption)) | (with_reducible refine belowAlloc ?_))) hb
  have kn0 : Blk w6 (w.heap.size) #[.int .i64 t, .int .i64 nz, .int .i64 s1, .int .i64 s2, .int .i64 s3, .int .i64 s4, .int .i64 l1, .int .i64 l2, .int .i64 h1, .int .i64 h2] 41 := Blk.later hb (by (repeat' first | (with_reducible assumption) | ((with_reducible refine Blk.new ?_); first | rfl | (simp; done)) | (with_reducible refine Blk.alloc ?_)))
  have kn1 : Blk w6 (w2.heap.size) #[.int .i64 Z1, .int .i64 Z2, .int .i64 Z3, .int .i64 Z4] 30 := Blk.later hb (by (repeat' first | (with_reducible assumption) | ((with_reducible refine Blk.new ?_); first | rfl | (simp; done)) | (with_reducible refine Blk.alloc ?_)))
  clear k0 a0 b0 y0
  clear k1 a1 b1 y1
  have k0 := kn0; clear kn0; obtain ⟨a0, b0⟩ := k0.read; have y0 := k0.lt
  have k1 := kn1; clear kn1; obtain ⟨a1, b1⟩ := k1.read; have y1 := k1.lt
  replace hBw : Below w.heap.size w w6 := belowThru (by (repeat' first | (with_reducible exact Below.refl _ _) | (with_reducible assumption) | (with_reducible refine belowThru ?_ (by assumption)) | (with_reducible refine belowAlloc ?_))) hb
  have hzw6 := hBw.size
  clear hb
  go_wp2_with fail
  obtain ⟨Wp, rfl⟩ : ∃ Wp, Wp = w6 := ⟨_, rfl⟩
  clear a0 b0 y0; have y0 := k0.lt
  clear a1 b1 y1; have y1 := k1.lt
  refine wp_region_held_drew (S := fun w' => (Blk w' (w.heap.size) #[.int .i64 t, .int .i64 nz, .int .i64 s1, .int .i64 s2, .int .i64 s3, .int .i64 s4, .int .i64 l1, .int .i64 l2, .int .i64 h1, .int .i64 h2] 41 ∧ (∀ i : Nat, w'.cell? ⟨w.heap.size, i, none⟩ = (#[.int .i64 t, .int .i64 nz, .int .i64 s1, .int .i64 s2, .int .i64 s3, .int .i64 s4, .int .i64 l1, .int .i64 l2, .int .i64 h1, .int .i64 h2] : Array Value)[i]?)) ∧ Below w.heap.size w w') hmx ⟨k0.drew.full, hBw.drew⟩ (fun hHeld => ?_)
  obtain ⟨Wd, hWd⟩ : ∃ Wd, Wp.drew = Wd := ⟨_, rfl⟩
  have q0 : Blk Wd (w.heap.size) #[.int .i64 t, .int .i64 nz, .int .i64 s1, .int .i64 s2, .int .i64 s3, .int .i64 s4, .int .i64 l1, .int .i64 l2, .int .i64 h1, .int .i64 h2] 41 := by rw [← hWd]; exact k0.drew
  have q1 : Blk Wd (w2.heap.size) #[.int .i64 Z1, .int .i64 Z2, .int .i64 Z3, .int .i64 Z4] 30 := by rw [← hWd]; exact k1.drew
  have hBd : Below w.heap.size w Wd := by rw [← hWd]; exact hBw.drew
  have hb1d : Below w5.heap.size w5 Wd := by rw [← hWd]; exact hb1.drew
  rw [hWd] at hHeld ⊢
  clear hWd k0 k1 y0 y1 hBw hb1
  refine wpAnyH_take (i := 0) (v := ?_) rfl (by kernel_rfl) (by kernel_rfl) (by kernel_rfl) (fun _ _ _ h => h) (Or.inl ⟨by rfl, ?hT0⟩) (by assumption) ?_
  case hT0 => ((intro w hSw; (try dsimp only at hSw); go_simp); try (with_reducible rfl))
  try simp only [Act.put, List.setIfInBounds_toArray, List.set_cons_zero, List.set_cons_succ]
  refine wpAnyH_take (i := 2) (v := ?_) rfl (by kernel_rfl) (by kernel_rfl) (by kernel_rfl) (fun _ _ _ h => h) (Or.inl ⟨by rfl, ?hT1⟩) (by assumption) ?_
  case hT1 => ((intro w hSw; (try dsimp only at hSw); go_simp); try (with_reducible rfl))
  try simp only [Act.put, List.setIfInBounds_toArray, List.set_cons_zero, List.set_cons_succ]
  refine wpAnyH_take (i := 3) (v := ?_) rfl (by kernel_rfl) (by kernel_rfl) (by kernel_rfl) (fun _ _ _ h => h) (Or.inl ⟨by rfl, ?hT2⟩) (by assumption) ?_
  case hT2 => ((intro w hSw; (try dsimp only at hSw); go_simp); try (with_reducible rfl))
  try simp only [Act.put, List.setIfInBounds_toArray, List.set_cons_zero, List.set_cons_succ]
  refine wpAnyH_take (i := 4) (v := ?_) rfl (by kernel_rfl) (by kernel_rfl) (by kernel_rfl) (fun _ _ _ h => h) (Or.inl ⟨by rfl, ?hT3⟩) (by assumption) ?_
  case hT3 => ((intro w hSw; (try dsimp only at hSw); go_simp); try (with_reducible rfl))
  try simp only [Act.put, List.setIfInBounds_toArray, List.set_cons_zero, List.set_cons_succ]
  refine wpAnyH_ready (rs := [1]) (by kernel_rfl) (by simp) ?_
  refine AllReadyH.cons rfl (fun K hK => ?_) AllReadyH.nil
  go_simp
  refine (HRV.out _ _ _ (HQ.out.later hb1d)).mono ?_
  rintro e w7 ⟨v', c'', rfl, hRow, hb⟩
  have HB := Lib.hid hRow
  clear hRow
  have k0 := Blk.later hb q0; have k1 := Blk.later hb q1; have hBw : Below w.heap.size w w7 := belowThru hBd hb
  clear q0 q1 hBd hb1d hb
  try go_simp
  refine hK.out _ _ ?_ (fun hHeldN => ?_)
  · (try dsimp only); exact ⟨k0.full, hBw⟩
  clear hK K hHeld
  have hHeld := hHeldN
  clear hHeldN
  try simp only [Act.put, List.setIfInBounds_toArray, List.set_cons_zero, List.set_cons_succ]
  refine wpAnyH_ready (rs := [5]) (by kernel_rfl) (by simp) ?_
  refine AllReadyH.cons rfl (fun K hK => ?_) AllReadyH.nil
  go_simp
  refine (HC.out _ _ _ HB.out).mono ?_
  rintro e w8 ⟨rfl, hb⟩
  replace k0 := Blk.later hb k0; replace k1 := Blk.later hb k1; replace hBw : Below w.heap.size w w8 := belowThru hBw hb
  clear hb
  try go_simp
  refine hK.out _ _ ?_ (fun hHeldN => ?_)
  · (try dsimp only); exact ⟨k0.full, hBw⟩
  clear hK K hHeld
  have hHeld := hHeldN
  clear hHeldN
  try simp only [Act.put, List.setIfInBounds_toArray, List.set_cons_zero, List.set_cons_succ]
  refine wpAnyH_take (i := 6) (v := ?_) rfl (by kernel_rfl) (by kernel_rfl) (by kernel_rfl) (fun _ _ _ h => h) (Or.inl ⟨by rfl, ?hT4⟩) (by assumption) ?_
  case hT4 => ((intro w hSw; (try dsimp only at hSw); go_simp); try (with_reducible rfl))
  try simp only [Act.put, List.setIfInBounds_toArray, List.set_cons_zero, List.set_cons_succ]
  refine wpAnyH_take (i := 7) (v := ?_) rfl (by kernel_rfl) (by kernel_rfl) (by kernel_rfl) (fun _ _ _ h => h) (Or.inl ⟨by rfl, ?hT5⟩) (by assumption) ?_
  case hT5 => ((intro w hSw; (try dsimp only at hSw); go_simp); try (with_reducible rfl))
  try simp only [Act.put, List.setIfInBounds_toArray, List.set_cons_zero, List.set_cons_succ]
  refine wpAnyH_take (i := 8) (v := ?_) rfl (by kernel_rfl) (by kernel_rfl) (by kernel_rfl) (fun _ _ _ h => h) (Or.inl ⟨by rfl, ?hT6⟩) (by assumption) ?_
  case hT6 => ((intro w hSw; (try dsimp only at hSw); go_simp); try (with_reducible rfl))
  try simp only [Act.put, List.setIfInBounds_toArray, List.set_cons_zero, List.set_cons_succ]
  refine wpAnyH_take (i := 9) (v := ?_) rfl (by kernel_rfl) (by kernel_rfl) (by kernel_rfl) (fun _ _ _ h => h) (Or.inl ⟨by rfl, ?hT7⟩) (by assumption) ?_
  case hT7 => ((intro w hSw; (try dsimp only at hSw); go_simp); try (with_reducible rfl))
  try simp only [Act.put, List.setIfInBounds_toArray, List.set_cons_zero, List.set_cons_succ]
  refine wpAnyH_ready (rs := [10]) (by kernel_rfl) (by simp) ?_
  refine AllReadyH.cons rfl (fun K hK => ?_) AllReadyH.nil
  go_simp
  refine hK.out _ _ ?_ (fun hHeldN => ?_)
  · (try dsimp only); exact ⟨k0.full, hBw⟩
  clear hK K hHeld
  have hHeld := hHeldN
  clear hHeldN
  try simp only [Act.put, List.setIfInBounds_toArray, List.set_cons_zero, List.set_cons_succ]
  refine wpAnyH_ready (rs := [11]) (by kernel_rfl) (by simp) ?_
  refine AllReadyH.cons rfl (fun K hK => ?_) AllReadyH.nil
  go_simp
  refine hK.out _ _ ?_ (fun hHeldN => ?_)
  · (try dsimp only); exact ⟨k0.full, hBw⟩
  clear hK K hHeld
  have hHeld := hHeldN
  clear hHeldN
  try simp only [Act.put, List.setIfInBounds_toArray, List.set_cons_zero, List.set_cons_succ]
  refine wpAnyH_ready (rs := [12]) (by kernel_rfl) (by simp) ?_
  refine AllReadyH.cons rfl (fun K hK => ?_) AllReadyH.nil
  go_simp
  refine hK.out _ _ ?_ (fun hHeldN => ?_)
  · (try dsimp only); exact ⟨k0.full, hBw⟩
  clear hK K hHeld
  have hHeld := hHeldN
  clear hHeldN
  try simp only [Act.put, List.setIfInBounds_toArray, List.set_cons_zero, List.set_cons_succ]
  refine wpAnyH_done (by kernel_rfl) ?_ _
  obtain ⟨a0, b0⟩ := k0.read; have y0 := k0.lt
  obtain ⟨a1, b1⟩ := k1.read; have y1 := k1.lt
  have hzw8 := hBw.size
  go_wp2_with fail
  refine (HMk.out _).mono ?_
  rintro e w9 ⟨rfl, hb⟩
  have kn0 : Blk w9 (w.heap.size) #[.int .i64 t, .int .i64 nz, .int .i64 s1, .int .i64 s2, .int .i64 s3, .int .i64 s4, .int .i64 l1, .int .i64 l2, .int .i64 h1, .int .i64 h2] 41 := Blk.later hb (by (repeat' first | (with_reducible assumption) | ((with_reducible refine Blk.new ?_); first | rfl | (simp; done)) | (with_reducible refine Blk.alloc ?_)))
  have kn1 : Blk w9 (w2.heap.size) #[.int .i64 Z1, .int .i64 Z2, .int .i64 Z3, .int .i64 Z4] 30 := Blk.later hb (by (repeat' first | (with_reducible assumption) | ((with_reducible refine Blk.new ?_); first | rfl | (simp; done)) | (with_reducible refine Blk.alloc ?_)))
  have kn2 : Blk w9 (w8.heap.size) #[.int .i64 s3, .int .i64 s4] 23 := Blk.later hb (by (repeat' first | (with_reducible assumption) | ((with_reducible refine Blk.new ?_); first | rfl | (simp; done)) | (with_reducible refine Blk.alloc ?_)))
  clear k0 a0 b0 y0
  clear k1 a1 b1 y1
  have k0 := kn0; clear kn0; obtain ⟨a0, b0⟩ := k0.read; have y0 := k0.lt
  have k1 := kn1; clear kn1; obtain ⟨a1, b1⟩ := k1.read; have y1 := k1.lt
  have k2 := kn2; clear kn2; obtain ⟨a2, b2⟩ := k2.read; have y2 := k2.lt
  replace hBw : Below w.heap.size w w9 := belowThru (by (repeat' first | (with_reducible exact Below.refl _ _) | (with_reducible assumption) | (with_reducible refine belowThru ?_ (by assumption)) | (with_reducible refine belowAlloc ?_))) hb
  have hzw9 := hBw.size
  clear hb
  go_wp2_with fail
  refine (HMu.out _).mono ?_
  rintro e w10 ⟨rfl, hb⟩
  have kn0 : Blk w10 (w.heap.size) #[.int .i64 t, .int .i64 nz, .int .i64 s1, .int .i64 s2, .int .i64 s3, .int .i64 s4, .int .i64 l1, .int .i64 l2, .int .i64 h1, .int .i64 h2] 41 := Blk.later hb (by (repeat' first | (with_reducible assumption) | ((with_reducible refine Blk.new ?_); first | rfl | (simp; done)) | (with_reducible refine Blk.alloc ?_)))
  have kn1 : Blk w10 (w2.heap.size) #[.int .i64 Z1, .int .i64 Z2, .int .i64 Z3, .int .i64 Z4] 30 := Blk.later hb (by (repeat' first | (with_reducible assumption) | ((with_reducible refine Blk.new ?_); first | rfl | (simp; done)) | (with_reducible refine Blk.alloc ?_)))
  have kn2 : Blk w10 (w8.heap.size) #[.int .i64 s3, .int .i64 s4] 23 := Blk.later hb (by (repeat' first | (with_reducible assumption) | ((with_reducible refine Blk.new ?_); first | rfl | (simp; done)) | (with_reducible refine Blk.alloc ?_)))
  have kn3 : Blk w10 (w9.heap.size) #[.int .i64 p1, .int .i64 p2] 23 := Blk.later hb (by (repeat' first | (with_reducible assumption) | ((with_reducible refine Blk.new ?_); first | rfl | (simp; done)) | (with_reducible refine Blk.alloc ?_)))
  clear k0 a0 b0 y0
  clear k1 a1 b1 y1
  clear k2 a2 b2 y2
  have k0 := kn0; clear kn0; obtain ⟨a0, b0⟩ := k0.read; have y0 := k0.lt
  have k1 := kn1; clear kn1; obtain ⟨a1, b1⟩ := k1.read; have y1 := k1.lt
  have k2 := kn2; clear kn2; obtain ⟨a2, b2⟩ := k2.read; have y2 := k2.lt
  have k3 := kn3; clear kn3; obtain ⟨a3, b3⟩ := k3.read; have y3 := k3.lt
  replace hBw : Below w.heap.size w w10 := belowThru (by (repeat' first | (with_reducible exact Below.refl _ _) | (with_reducible assumption) | (with_reducible refine belowThru ?_ (by assumption)) | (with_reducible refine belowAlloc ?_))) hb
  have hzw10 := hBw.size
  clear hb
  go_wp2_with fail
  refine (HI.out _).mono ?_
  rintro e w11 ⟨rfl, hb⟩
  have kn0 : Blk w11 (w.heap.size) #[.int .i64 t, .int .i64 nz, .int .i64 s1, .int .i64 s2, .int .i64 s3, .int .i64 s4, .int .i64 l1, .int .i64 l2, .int .i64 h1, .int .i64 h2] 41 := Blk.later hb (by (repeat' first | (with_reducible assumption) | ((with_reducible refine Blk.new ?_); first | rfl | (simp; done)) | (with_reducible refine Blk.alloc ?_)))
  have kn1 : Blk w11 (w2.heap.size) #[.int .i64 Z1, .int .i64 Z2, .int .i64 Z3, .int .i64 Z4] 30 := Blk.later hb (by (repeat' first | (with_reducible assumption) | ((with_reducible refine Blk.new ?_); first | rfl | (simp; done)) | (with_reducible refine Blk.alloc ?_)))
  have kn2 : Blk w11 (w8.heap.size) #[.int .i64 s3, .int .i64 s4] 23 := Blk.later hb (by (repeat' first | (with_reducible assumption) | ((with_reducible refine Blk.new ?_); first | rfl | (simp; done)) | (with_reducible refine Blk.alloc ?_)))
  have kn3 : Blk w11 (w9.heap.size) #[.int .i64 p1, .int .i64 p2] 23 := Blk.later hb (by (repeat' first | (with_reducible assumption) | ((with_reducible refine Blk.new ?_); first | rfl | (simp; done)) | (with_reducible refine Blk.alloc ?_)))
  have kn4 : Blk w11 (w10.heap.size) #[.int .i64 q1, .int .i64 q2] 23 := Blk.later hb (by (repeat' first | (with_reducible assumption) | ((with_reducible refine Blk.new ?_); first | rfl | (simp; done)) | (with_reducible refine Blk.alloc ?_)))
  clear k0 a0 b0 y0
  clear k1 a1 b1 y1
  clear k2 a2 b2 y2
  clear k3 a3 b3 y3
  have k0 := kn0; clear kn0; obtain ⟨a0, b0⟩ := k0.read; have y0 := k0.lt
  have k1 := kn1; clear kn1; obtain ⟨a1, b1⟩ := k1.read; have y1 := k1.lt
  have k2 := kn2; clear kn2; obtain ⟨a2, b2⟩ := k2.read; have y2 := k2.lt
  have k3 := kn3; clear kn3; obtain ⟨a3, b3⟩ := k3.read; have y3 := k3.lt
  have k4 := kn4; clear kn4; obtain ⟨a4, b4⟩ := k4.read; have y4 := k4.lt
  replace hBw : Below w.heap.size w w11 := belowThru (by (repeat' first | (with_reducible exact Below.refl _ _) | (with_reducible assumption) | (with_reducible refine belowThru ?_ (by assumption)) | (with_reducible refine belowAlloc ?_))) hb
  have hzw11 := hBw.size
  clear hb
  go_wp2_with fail
  refine (HJ.out _).mono ?_
  rintro e w12 ⟨rfl, hb⟩
  have kn0 : Blk w12 (w.heap.size) #[.int .i64 t, .int .i64 nz, .int .i64 s1, .int .i64 s2, .int .i64 s3, .int .i64 s4, .int .i64 l1, .int .i64 l2, .int .i64 h1, .int .i64 h2] 41 := Blk.later hb (by (repeat' first | (with_reducible assumption) | ((with_reducible refine Blk.new ?_); first | rfl | (simp; done)) | (with_reducible refine Blk.alloc ?_)))
  have kn1 : Blk w12 (w2.heap.size) #[.int .i64 Z1, .int .i64 Z2, .int .i64 Z3, .int .i64 Z4] 30 := Blk.later hb (by (repeat' first | (with_reducible assumption) | ((with_reducible refine Blk.new ?_); first | rfl | (simp; done)) | (with_reducible refine Blk.alloc ?_)))
  have kn2 : Blk w12 (w8.heap.size) #[.int .i64 s3, .int .i64 s4] 23 := Blk.later hb (by (repeat' first | (with_reducible assumption) | ((with_reducible refine Blk.new ?_); first | rfl | (simp; done)) | (with_reducible refine Blk.alloc ?_)))
  have kn3 : Blk w12 (w9.heap.size) #[.int .i64 p1, .int .i64 p2] 23 := Blk.later hb (by (repeat' first | (with_reducible assumption) | ((with_reducible refine Blk.new ?_); first | rfl | (simp; done)) | (with_reducible refine Blk.alloc ?_)))
  have kn4 : Blk w12 (w10.heap.size) #[.int .i64 q1, .int .i64 q2] 23 := Blk.later hb (by (repeat' first | (with_reducible assumption) | ((with_reducible refine Blk.new ?_); first | rfl | (simp; done)) | (with_reducible refine Blk.alloc ?_)))
  clear k0 a0 b0 y0
  clear k1 a1 b1 y1
  clear k2 a2 b2 y2
  clear k3 a3 b3 y3
  clear k4 a4 b4 y4
  have k0 := kn0; clear kn0; obtain ⟨a0, b0⟩ := k0.read; have y0 := k0.lt
  have k1 := kn1; clear kn1; obtain ⟨a1, b1⟩ := k1.read; have y1 := k1.lt
  have k2 := kn2; clear kn2; obtain ⟨a2, b2⟩ := k2.read; have y2 := k2.lt
  have k3 := kn3; clear kn3; obtain ⟨a3, b3⟩ := k3.read; have y3 := k3.lt
  have k4 := kn4; clear kn4; obtain ⟨a4, b4⟩ := k4.read; have y4 := k4.lt
  replace hBw : Below w.heap.size w w12 := belowThru (by (repeat' first | (with_reducible exact Below.refl _ _) | (with_reducible assumption) | (with_reducible refine belowThru ?_ (by assumption)) | (with_reducible refine belowAlloc ?_))) hb
  have hzw12 := hBw.size
  clear hb
  rcases zcases Z1 Z2 Z3 Z4 with hz | ⟨rfl, hz⟩ | ⟨rfl, rfl, hz⟩ | ⟨rfl, rfl, rfl, hz⟩ | ⟨rfl, rfl, rfl, rfl⟩
  · have hz1 : (Z1 == 0) = false := by simpa using hz
    have hz2 : decide (Z1 = 0) = false := by simpa using hz
    go_wp2_with fail
    obtain ⟨Wp, rfl⟩ : ∃ Wp, Wp = w12 := ⟨_, rfl⟩
    clear a0 b0 y0; have y0 := k0.lt
    clear a1 b1 y1; have y1 := k1.lt
    clear a2 b2 y2; have y2 := k2.lt
    clear a3 b3 y3; have y3 := k3.lt
    clear a4 b4 y4; have y4 := k4.lt
    go_cut [30] (fun s30 wx => s30 = .bool false ∧ Below Wp.heap.size Wp wx)
    case first =>
      go_region_held3 (fun w' => (Blk w' (w2.heap.size) #[.int .i64 Z1, .int .i64 Z2, .int .i64 Z3, .int .i64 Z4] 30 ∧ (∀ i : Nat, w'.cell? ⟨w2.heap.size, i, none⟩ = (#[.int .i64 Z1, .int .i64 Z2, .int .i64 Z3, .int .i64 Z4] : Array Value)[i]?)) ∧ Below Wp.heap.size Wp w')
        (((first | (apply hold1T; (focus assumption); intro p0 pB) | skip); refine ⟨Blk.full ?_, ?_⟩; all_goals (first | ((repeat' (first | (with_reducible assumption) | ((with_reducible refine Blk.new ?_); first | rfl | (simp; done)) | (with_reducible refine Blk.later (by assumption) ?_) | (with_reducible refine Blk.alloc ?_) | (with_reducible refine Blk.drewN ?_) | (with_reducible refine Blk.drew ?_) | (with_reducible refine Blk.other ?_ (by first | omega | (simp; done) | (simp; omega))))); done) | ((repeat' (first | (with_reducible exact Below.refl _ _) | (with_reducible assumption) | (with_reducible refine belowThru ?_ (by assumption)) | (with_reducible refine belowAlloc ?_) | (with_reducible refine Below.setCell ?_ (by first | omega | (simp; done) | (simp; omega)) _) | (with_reducible refine Below.drew ?_) | (with_reducible refine below_drewN ?_ _))); done) | exact Below.refl _ _)))
        (first
        | (go_at_call 23; (with_reducible refine (HF.out _).mono ?_); rintro e w1 ⟨rfl, hb⟩))
      all_goals
        apply hold1T; (focus assumption); intro p0 pB
        go_wp2_with fail
        go_meet
        exact ⟨rfl, pB⟩
    case rest =>
      obtain ⟨rfl, hb⟩ := hcut
      obtain ⟨w13, rfl⟩ : ∃ z, z = wc := ⟨_, rfl⟩
      replace k0 := Blk.later hb k0; clear y0; obtain ⟨a0, b0⟩ := k0.read; have y0 := k0.lt
      replace k1 := Blk.later hb k1; clear y1; obtain ⟨a1, b1⟩ := k1.read; have y1 := k1.lt
      replace k2 := Blk.later hb k2; clear y2; obtain ⟨a2, b2⟩ := k2.read; have y2 := k2.lt
      replace k3 := Blk.later hb k3; clear y3; obtain ⟨a3, b3⟩ := k3.read; have y3 := k3.lt
      replace k4 := Blk.later hb k4; clear y4; obtain ⟨a4, b4⟩ := k4.read; have y4 := k4.lt
      replace hBw : Below w.heap.size w w13 := belowThru hBw hb
      have hzw13 := hBw.size
      clear hb
      go_wp2_with fail
      all_goals
        go_ret
        exact ⟨rfl, by (repeat' first | (with_reducible exact Below.refl _ _) | (with_reducible assumption) | (with_reducible refine belowThru ?_ (by assumption)) | (with_reducible refine belowAlloc ?_))⟩
  · have hz1 : (Z2 == 1) = false := by simpa using hz
    have hz2 : decide (Z2 = 1) = false := by simpa using hz
    go_wp2_with fail
    obtain ⟨Wp, rfl⟩ : ∃ Wp, Wp = w12 := ⟨_, rfl⟩
    clear a0 b0 y0; have y0 := k0.lt
    clear a1 b1 y1; have y1 := k1.lt
    clear a2 b2 y2; have y2 := k2.lt
    clear a3 b3 y3; have y3 := k3.lt
    clear a4 b4 y4; have y4 := k4.lt
    go_cut [30] (fun s30 wx => s30 = .bool false ∧ Below Wp.heap.size Wp wx)
    case first =>
      go_region_held3 (fun w' => (Blk w' (w2.heap.size) #[.int .i64 0, .int .i64 Z2, .int .i64 Z3, .int .i64 Z4] 30 ∧ (∀ i : Nat, w'.cell? ⟨w2.heap.size, i, none⟩ = (#[.int .i64 0, .int .i64 Z2, .int .i64 Z3, .int .i64 Z4] : Array Value)[i]?)) ∧ Below Wp.heap.size Wp w')
        (((first | (apply hold1T; (focus assumption); intro p0 pB) | skip); refine ⟨Blk.full ?_, ?_⟩; all_goals (first | ((repeat' (first | (with_reducible assumption) | ((with_reducible refine Blk.new ?_); first | rfl | (simp; done)) | (with_reducible refine Blk.later (by assumption) ?_) | (with_reducible refine Blk.alloc ?_) | (with_reducible refine Blk.drewN ?_) | (with_reducible refine Blk.drew ?_) | (with_reducible refine Blk.other ?_ (by first | omega | (simp; done) | (simp; omega))))); done) | ((repeat' (first | (with_reducible exact Below.refl _ _) | (with_reducible assumption) | (with_reducible refine belowThru ?_ (by assumption)) | (with_reducible refine belowAlloc ?_) | (with_reducible refine Below.setCell ?_ (by first | omega | (simp; done) | (simp; omega)) _) | (with_reducible refine Below.drew ?_) | (with_reducible refine below_drewN ?_ _))); done) | exact Below.refl _ _)))
        (first
        | (go_at_call 23; (with_reducible refine (HF.out _).mono ?_); rintro e w1 ⟨rfl, hb⟩))
      all_goals
        apply hold1T; (focus assumption); intro p0 pB
        go_wp2_with fail
        go_meet
        exact ⟨rfl, pB⟩
    case rest =>
      obtain ⟨rfl, hb⟩ := hcut
      obtain ⟨w13, rfl⟩ : ∃ z, z = wc := ⟨_, rfl⟩
      replace k0 := Blk.later hb k0; clear y0; obtain ⟨a0, b0⟩ := k0.read; have y0 := k0.lt
      replace k1 := Blk.later hb k1; clear y1; obtain ⟨a1, b1⟩ := k1.read; have y1 := k1.lt
      replace k2 := Blk.later hb k2; clear y2; obtain ⟨a2, b2⟩ := k2.read; have y2 := k2.lt
      replace k3 := Blk.later hb k3; clear y3; obtain ⟨a3, b3⟩ := k3.read; have y3 := k3.lt
      replace k4 := Blk.later hb k4; clear y4; obtain ⟨a4, b4⟩ := k4.read; have y4 := k4.lt
      replace hBw : Below w.heap.size w w13 := belowThru hBw hb
      have hzw13 := hBw.size
      clear hb
      go_wp2_with fail
      all_goals
        go_ret
        exact ⟨rfl, by (repeat' first | (with_reducible exact Below.refl _ _) | (with_reducible assumption) | (with_reducible refine belowThru ?_ (by assumption)) | (with_reducible refine belowAlloc ?_))⟩
  · have hz1 : (Z3 == 0) = false := by simpa using hz
    have hz2 : decide (Z3 = 0) = false := by simpa using hz
    go_wp2_with fail
    obtain ⟨Wp, rfl⟩ : ∃ Wp, Wp = w12 := ⟨_, rfl⟩
    clear a0 b0 y0; have y0 := k0.lt
    clear a1 b1 y1; have y1 := k1.lt
    clear a2 b2 y2; have y2 := k2.lt
    clear a3 b3 y3; have y3 := k3.lt
    clear a4 b4 y4; have y4 := k4.lt
    go_cut [30] (fun s30 wx => s30 = .bool false ∧ Below Wp.heap.size Wp wx)
    case first =>
      go_region_held3 (fun w' => (Blk w' (w2.heap.size) #[.int .i64 0, .int .i64 1, .int .i64 Z3, .int .i64 Z4] 30 ∧ (∀ i : Nat, w'.cell? ⟨w2.heap.size, i, none⟩ = (#[.int .i64 0, .int .i64 1, .int .i64 Z3, .int .i64 Z4] : Array Value)[i]?)) ∧ Below Wp.heap.size Wp w')
        (((first | (apply hold1T; (focus assumption); intro p0 pB) | skip); refine ⟨Blk.full ?_, ?_⟩; all_goals (first | ((repeat' (first | (with_reducible assumption) | ((with_reducible refine Blk.new ?_); first | rfl | (simp; done)) | (with_reducible refine Blk.later (by assumption) ?_) | (with_reducible refine Blk.alloc ?_) | (with_reducible refine Blk.drewN ?_) | (with_reducible refine Blk.drew ?_) | (with_reducible refine Blk.other ?_ (by first | omega | (simp; done) | (simp; omega))))); done) | ((repeat' (first | (with_reducible exact Below.refl _ _) | (with_reducible assumption) | (with_reducible refine belowThru ?_ (by assumption)) | (with_reducible refine belowAlloc ?_) | (with_reducible refine Below.setCell ?_ (by first | omega | (simp; done) | (simp; omega)) _) | (with_reducible refine Below.drew ?_) | (with_reducible refine below_drewN ?_ _))); done) | exact Below.refl _ _)))
        (first
        | (go_at_call 23; (with_reducible refine (HF.out _).mono ?_); rintro e w1 ⟨rfl, hb⟩))
      all_goals
        apply hold1T; (focus assumption); intro p0 pB
        go_wp2_with fail
        go_meet
        exact ⟨rfl, pB⟩
    case rest =>
      obtain ⟨rfl, hb⟩ := hcut
      obtain ⟨w13, rfl⟩ : ∃ z, z = wc := ⟨_, rfl⟩
      replace k0 := Blk.later hb k0; clear y0; obtain ⟨a0, b0⟩ := k0.read; have y0 := k0.lt
      replace k1 := Blk.later hb k1; clear y1; obtain ⟨a1, b1⟩ := k1.read; have y1 := k1.lt
      replace k2 := Blk.later hb k2; clear y2; obtain ⟨a2, b2⟩ := k2.read; have y2 := k2.lt
      replace k3 := Blk.later hb k3; clear y3; obtain ⟨a3, b3⟩ := k3.read; have y3 := k3.lt
      replace k4 := Blk.later hb k4; clear y4; obtain ⟨a4, b4⟩ := k4.read; have y4 := k4.lt
      replace hBw : Below w.heap.size w w13 := belowThru hBw hb
      have hzw13 := hBw.size
      clear hb
      go_wp2_with fail
      all_goals
        go_ret
        exact ⟨rfl, by (repeat' first | (with_reducible exact Below.refl _ _) | (with_reducible assumption) | (with_reducible refine belowThru ?_ (by assumption)) | (with_reducible refine belowAlloc ?_))⟩
  · have hz1 : (Z4 == 1) = false := by simpa using hz
    have hz2 : decide (Z4 = 1) = false := by simpa using hz
    go_wp2_with fail
    obtain ⟨Wp, rfl⟩ : ∃ Wp, Wp = w12 := ⟨_, rfl⟩
    clear a0 b0 y0; have y0 := k0.lt
    clear a1 b1 y1; have y1 := k1.lt
    clear a2 b2 y2; have y2 := k2.lt
    clear a3 b3 y3; have y3 := k3.lt
    clear a4 b4 y4; have y4 := k4.lt
    go_cut [30] (fun s30 wx => s30 = .bool false ∧ Below Wp.heap.size Wp wx)
    case first =>
      go_region_held3 (fun w' => (Blk w' (w2.heap.size) #[.int .i64 0, .int .i64 1, .int .i64 0, .int .i64 Z4] 30 ∧ (∀ i : Nat, w'.cell? ⟨w2.heap.size, i, none⟩ = (#[.int .i64 0, .int .i64 1, .int .i64 0, .int .i64 Z4] : Array Value)[i]?)) ∧ Below Wp.heap.size Wp w')
        (((first | (apply hold1T; (focus assumption); intro p0 pB) | skip); refine ⟨Blk.full ?_, ?_⟩; all_goals (first | ((repeat' (first | (with_reducible assumption) | ((with_reducible refine Blk.new ?_); first | rfl | (simp; done)) | (with_reducible refine Blk.later (by assumption) ?_) | (with_reducible refine Blk.alloc ?_) | (with_reducible refine Blk.drewN ?_) | (with_reducible refine Blk.drew ?_) | (with_reducible refine Blk.other ?_ (by first | omega | (simp; done) | (simp; omega))))); done) | ((repeat' (first | (with_reducible exact Below.refl _ _) | (with_reducible assumption) | (with_reducible refine belowThru ?_ (by assumption)) | (with_reducible refine belowAlloc ?_) | (with_reducible refine Below.setCell ?_ (by first | omega | (simp; done) | (simp; omega)) _) | (with_reducible refine Below.drew ?_) | (with_reducible refine below_drewN ?_ _))); done) | exact Below.refl _ _)))
        (first
        | (go_at_call 23; (with_reducible refine (HF.out _).mono ?_); rintro e w1 ⟨rfl, hb⟩))
      all_goals
        apply hold1T; (focus assumption); intro p0 pB
        go_wp2_with fail
        go_meet
        exact ⟨rfl, pB⟩
    case rest =>
      obtain ⟨rfl, hb⟩ := hcut
      obtain ⟨w13, rfl⟩ : ∃ z, z = wc := ⟨_, rfl⟩
      replace k0 := Blk.later hb k0; clear y0; obtain ⟨a0, b0⟩ := k0.read; have y0 := k0.lt
      replace k1 := Blk.later hb k1; clear y1; obtain ⟨a1, b1⟩ := k1.read; have y1 := k1.lt
      replace k2 := Blk.later hb k2; clear y2; obtain ⟨a2, b2⟩ := k2.read; have y2 := k2.lt
      replace k3 := Blk.later hb k3; clear y3; obtain ⟨a3, b3⟩ := k3.read; have y3 := k3.lt
      replace k4 := Blk.later hb k4; clear y4; obtain ⟨a4, b4⟩ := k4.read; have y4 := k4.lt
      replace hBw : Below w.heap.size w w13 := belowThru hBw hb
      have hzw13 := hBw.size
      clear hb
      go_wp2_with fail
      all_goals
        go_ret
        exact ⟨rfl, by (repeat' first | (with_reducible exact Below.refl _ _) | (with_reducible assumption) | (with_reducible refine belowThru ?_ (by assumption)) | (with_reducible refine belowAlloc ?_))⟩
  · go_wp2_with fail
    obtain ⟨Wp, rfl⟩ : ∃ Wp, Wp = w12 := ⟨_, rfl⟩
    clear a0 b0 y0; have y0 := k0.lt
    clear a1 b1 y1; have y1 := k1.lt
    clear a2 b2 y2; have y2 := k2.lt
    clear a3 b3 y3; have y3 := k3.lt
    clear a4 b4 y4; have y4 := k4.lt
    go_cut [30] (fun s30 wx => s30 = .bool true ∧ Below Wp.heap.size Wp wx)
    case first =>
      go_region_held3 (fun w' => (Blk w' (w2.heap.size) #[.int .i64 0, .int .i64 1, .int .i64 0, .int .i64 1] 30 ∧ (∀ i : Nat, w'.cell? ⟨w2.heap.size, i, none⟩ = (#[.int .i64 0, .int .i64 1, .int .i64 0, .int .i64 1] : Array Value)[i]?)) ∧ Below Wp.heap.size Wp w')
        (((first | (apply hold1T; (focus assumption); intro p0 pB) | skip); refine ⟨Blk.full ?_, ?_⟩; all_goals (first | ((repeat' (first | (with_reducible assumption) | ((with_reducible refine Blk.new ?_); first | rfl | (simp; done)) | (with_reducible refine Blk.later (by assumption) ?_) | (with_reducible refine Blk.alloc ?_) | (with_reducible refine Blk.drewN ?_) | (with_reducible refine Blk.drew ?_) | (with_reducible refine Blk.other ?_ (by first | omega | (simp; done) | (simp; omega))))); done) | ((repeat' (first | (with_reducible exact Below.refl _ _) | (with_reducible assumption) | (with_reducible refine belowThru ?_ (by assumption)) | (with_reducible refine belowAlloc ?_) | (with_reducible refine Below.setCell ?_ (by first | omega | (simp; done) | (simp; omega)) _) | (with_reducible refine Below.drew ?_) | (with_reducible refine below_drewN ?_ _))); done) | exact Below.refl _ _)))
        (first
        | (go_at_call 23; (with_reducible refine (HF.out _).mono ?_); rintro e w1 ⟨rfl, hb⟩))
      all_goals
        apply hold1T; (focus assumption); intro p0 pB
        go_wp2_with fail
        go_meet
        exact ⟨rfl, pB⟩
    case rest =>
      obtain ⟨rfl, hb⟩ := hcut
      obtain ⟨w13, rfl⟩ : ∃ z, z = wc := ⟨_, rfl⟩
      replace k0 := Blk.later hb k0; clear y0; obtain ⟨a0, b0⟩ := k0.read; have y0 := k0.lt
      replace k1 := Blk.later hb k1; clear y1; obtain ⟨a1, b1⟩ := k1.read; have y1 := k1.lt
      replace k2 := Blk.later hb k2; clear y2; obtain ⟨a2, b2⟩ := k2.read; have y2 := k2.lt
      replace k3 := Blk.later hb k3; clear y3; obtain ⟨a3, b3⟩ := k3.read; have y3 := k3.lt
      replace k4 := Blk.later hb k4; clear y4; obtain ⟨a4, b4⟩ := k4.read; have y4 := k4.lt
      replace hBw : Below w.heap.size w w13 := belowThru hBw hb
      have hzw13 := hBw.size
      clear hb
      go_wp2_with fail
      all_goals
        go_ret
        exact ⟨rfl, by (repeat' first | (with_reducible exact Below.refl _ _) | (with_reducible assumption) | (with_reducible refine belowThru ?_ (by assumption)) | (with_reducible refine belowAlloc ?_))⟩
set_option maxRecDepth 100000 in
set_option maxHeartbeats 16000000 in
theorem true_bt (t nz s1 s2 s3 s4 l1 l2 h1 h2 : Int) (a : Option Addr) (n c : Nat) (zs : List Int) (a2 : Option Addr) (m2 c2 : Nat) (ms : List Int) (w : World) (hR : Row w a n (iv zs)) (hR2 : Row w a2 m2 (hv ms)) (hl : n ≤ 64) (L K : List Int) (B I Kn : Bool) (Z1 Z2 Z3 Z4 T M A1 A2 C1 C2 Y1 Y2 Y3 Y4 Y5 Y6 p1 p2 q1 q2 : Int) (hT : IntKind.i64.wrap (4 * t) = T) (hM : IntKind.i64.wrap ((n : Int) - 1) = M) (hY1 : IntKind.i64.wrap (M * C2) = Y1) (hY2 : IntKind.i64.wrap (Y1 - C1) = Y2) (hY3 : IntKind.i64.wrap (Y2 * A2) = Y3) (hY4 : IntKind.i64.wrap (A1 * C2) = Y4) (hY5 : IntKind.i64.wrap (Y3 - Y4) = Y5) (hY6 : IntKind.i64.wrap (A2 * C2) = Y6) (HM : Hid (∀ w : World, Row w a n (iv zs) → Calls Try.prog 27 #[.agg #[.int .i64 t, .int .i64 nz, .int .i64 s1, .int .i64 s2, .int .i64 s3, .int .i64 s4, .int .i64 l1, .int .i64 l2, .int .i64 h1, .int .i64 h2], .slice a n c] w fun e w' => e = .returned (.tuple #[.agg #[.int .i64 Z1, .int .i64 Z2, .int .i64 Z3, .int .i64 Z4], .int .u8 2, .int .i64 0]) ∧ Below w.heap.size w w')) (HG : Hid (∀ w : World, Calls Try.prog 56 #[.agg #[.int .i64 t, .int .i64 nz, .int .i64 s1, .int .i64 s2, .int .i64 s3, .int .i64 s4, .int .i64 l1, .int .i64 l2, .int .i64 h1, .int .i64 h2]] w fun e w' => e = .returned (.bool true) ∧ Below w.heap.size w w')) (HV : Hid (∀ w : World, Row w a n (iv zs) → Calls Try.prog 51 #[.slice a n c] w fun e w' => e = .returned (.bool true) ∧ Below w.heap.size w w')) (HAL : Hid (∀ w : World, Row w a n (iv zs) → Row w a2 m2 (hv ms) → Calls Try.prog 52 #[.slice a n c, .slice a2 m2 c2, .int .i64 nz] w fun e w' => ∃ v c', e = .returned (.slice v n c') ∧ Row w' v n (iv L) ∧ Below w.heap.size w w')) (HRV : Hid (∀ (v : Option Addr) (c : Nat) (w : World), Row w v n (iv L) → Calls Try.prog 49 #[.slice v n c] w fun e w' => ∃ v' c', e = .returned (.slice v' n c') ∧ Row w' v' n (iv K) ∧ Below w.heap.size w w')) (HA : Hid (∀ (v : Option Addr) (c : Nat) (w : World), Row w v n (iv L) → Calls Try.prog 53 #[.slice v n c, .int .i64 T, .int .i64 0] w fun e w' => e = .returned (.tuple #[.int .i64 A1, .int .i64 A2, .bool true]) ∧ Below w.heap.size w w')) (HC : Hid (∀ (v : Option Addr) (c : Nat) (w : World), Row w v n (iv K) → Calls Try.prog 53 #[.slice v n c, .int .i64 T, .int .i64 0] w fun e w' => e = .returned (.tuple #[.int .i64 C1, .int .i64 C2, .bool B]) ∧ Below w.heap.size w w')) (HMk : Hid (∀ w : World, Calls Try.prog 57 #[.int .i64 Y5, .int .i64 Y6] w fun e w' => e = .returned (.tuple #[.agg #[.int .i64 p1, .int .i64 p2], .int .i64 0]) ∧ Below w.heap.size w w')) (HMu : Hid (∀ w : World, Calls Try.prog 58 #[.agg #[.int .i64 p1, .int .i64 p2], .agg #[.int .i64 s3, .int .i64 s4]] w fun e w' => e = .returned (.tuple #[.agg #[.int .i64 q1, .int .i64 q2], .int .i64 0]) ∧ Below w.heap.size w w')) (HI : Hid (∀ w : World, Calls Try.prog 59 #[.agg #[.int .i64 l1, .int .i64 l2, .int .i64 h1, .int .i64 h2], .agg #[.int .i64 q1, .int .i64 q2]] w fun e w' => e = .returned (.tuple #[.bool false, .int .i64 0]) ∧ Below w.heap.size w w')) (HJ : Hid (∀ w : World, Calls Try.prog 59 #[.agg #[.int .i64 Z1, .int .i64 Z2, .int .i64 Z3, .int .i64 Z4], .agg #[.int .i64 q1, .int .i64 q2]] w fun e w' => e = .returned (.tuple #[.bool true, .int .i64 0]) ∧ Below w.heap.size w w')) :
    Calls Try.prog 13 #[.agg #[.int .i64 t, .int .i64 nz, .int .i64 s1, .int .i64 s2, .int .i64 s3, .int .i64 s4, .int .i64 l1, .int .i64 l2, .int .i64 h1, .int .i64 h2], .slice a n c, .slice a2 m2 c2, .bool true] w fun e w' => e = .returned (.bool true) ∧ Below w.heap.size w w' := by
  have hd : decide (64 < (n : Int)) = false := by simp; omega
  have HF := Lib.hid (frac_lit 0 1 ⟨by kernel_rfl, by kernel_rfl⟩ (by decide))
  have hmx : Try.prog.follows .mixedOrders = true := by kernel_rfl
  have HR := Lib.hid hR
  clear hR
  have HR2 := Lib.hid hR2
  clear hR2
  go_enter Try.func13, Try.ntmps13
  go_wp2_with fail
  refine (alive_true _).mono ?_
  rintro e w1 ⟨rfl, hb⟩
  have kn0 : Blk w1 (w.heap.size) #[.int .i64 t, .int .i64 nz, .int .i64 s1, .int .i64 s2, .int .i64 s3, .int .i64 s4, .int .i64 l1, .int .i64 l2, .int .i64 h1, .int .i64 h2] 41 := Blk.later hb (by (repeat' first | (with_reducible assumption) | ((with_reducible refine Blk.new ?_); first | rfl | (simp; done)) | (with_reducible refine Blk.alloc ?_)))
  have k0 := kn0; clear kn0; obtain ⟨a0, b0⟩ := k0.read; have y0 := k0.lt
  have hBw : Below w.heap.size w w1 := by (repeat' first | (with_reducible exact Below.refl _ _) | (with_reducible assumption) | (with_reducible refine belowThru ?_ (by assumption)) | (with_reducible refine belowAlloc ?_))
  have hzw1 := hBw.size
  clear hb
  go_wp2_with fail
  refine (HM.out _ (HR.out.later (by (repeat' first | (with_reducible exact Below.refl _ _) | (with_reducible assumption) | (with_reducible refine belowThru ?_ (by assumption)) | (with_reducible refine belowAlloc ?_))))).mono ?_
  rintro e w2 ⟨rfl, hb⟩
  have kn0 : Blk w2 (w.heap.size) #[.int .i64 t, .int .i64 nz, .int .i64 s1, .int .i64 s2, .int .i64 s3, .int .i64 s4, .int .i64 l1, .int .i64 l2, .int .i64 h1, .int .i64 h2] 41 := Blk.later hb (by (repeat' first | (with_reducible assumption) | ((with_reducible refine Blk.new ?_); first | rfl | (simp; done)) | (with_reducible refine Blk.alloc ?_)))
  clear k0 a0 b0 y0
  have k0 := kn0; clear kn0; obtain ⟨a0, b0⟩ := k0.read; have y0 := k0.lt
  replace hBw : Below w.heap.size w w2 := belowThru (by (repeat' first | (with_reducible exact Below.refl _ _) | (with_reducible assumption) | (with_reducible refine belowThru ?_ (by assumption)) | (with_reducible refine belowAlloc ?_))) hb
  have hzw2 := hBw.size
  clear hb
  go_wp2_with fail
  refine (HG.out _).mono ?_
  rintro e w3 ⟨rfl, hb⟩
  have kn0 : Blk w3 (w.heap.size) #[.int .i64 t, .int .i64 nz, .int .i64 s1, .int .i64 s2, .int .i64 s3, .int .i64 s4, .int .i64 l1, .int .i64 l2, .int .i64 h1, .int .i64 h2] 41 := Blk.later hb (by (repeat' first | (with_reducible assumption) | ((with_reducible refine Blk.new ?_); first | rfl | (simp; done)) | (with_reducible refine Blk.alloc ?_)))
  have kn1 : Blk w3 (w2.heap.size) #[.int .i64 Z1, .int .i64 Z2, .int .i64 Z3, .int .i64 Z4] 30 := Blk.later hb (by (repeat' first | (with_reducible assumption) | ((with_reducible refine Blk.new ?_); first | rfl | (simp; done)) | (with_reducible refine Blk.alloc ?_)))
  clear k0 a0 b0 y0
  have k0 := kn0; clear kn0; obtain ⟨a0, b0⟩ := k0.read; have y0 := k0.lt
  have k1 := kn1; clear kn1; obtain ⟨a1, b1⟩ := k1.read; have y1 := k1.lt
  replace hBw : Below w.heap.size w w3 := belowThru (by (repeat' first | (with_reducible exact Below.refl _ _) | (with_reducible assumption) | (with_reducible refine belowThru ?_ (by assumption)) | (with_reducible refine belowAlloc ?_))) hb
  have hzw3 := hBw.size
  clear hb
  go_wp2_with fail
  refine (HV.out _ (HR.out.later (by (repeat' first | (with_reducible exact Below.refl _ _) | (with_reducible assumption) | (with_reducible refine belowThru ?_ (by assumption)) | (with_reducible refine belowAlloc ?_))))).mono ?_
  rintro e w4 ⟨rfl, hb⟩
  have kn0 : Blk w4 (w.heap.size) #[.int .i64 t, .int .i64 nz, .int .i64 s1, .int .i64 s2, .int .i64 s3, .int .i64 s4, .int .i64 l1, .int .i64 l2, .int .i64 h1, .int .i64 h2] 41 := Blk.later hb (by (repeat' first | (with_reducible assumption) | ((with_reducible refine Blk.new ?_); first | rfl | (simp; done)) | (with_reducible refine Blk.alloc ?_)))
  have kn1 : Blk w4 (w2.heap.size) #[.int .i64 Z1, .int .i64 Z2, .int .i64 Z3, .int .i64 Z4] 30 := Blk.later hb (by (repeat' first | (with_reducible assumption) | ((with_reducible refine Blk.new ?_); first | rfl | (simp; done)) | (with_reducible refine Blk.alloc ?_)))
  clear k0 a0 b0 y0
  clear k1 a1 b1 y1
  have k0 := kn0; clear kn0; obtain ⟨a0, b0⟩ := k0.read; have y0 := k0.lt
  have k1 := kn1; clear kn1; obtain ⟨a1, b1⟩ := k1.read; have y1 := k1.lt
  replace hBw : Below w.heap.size w w4 := belowThru (by (repeat' first | (with_reducible exact Below.refl _ _) | (with_reducible assumption) | (with_reducible refine belowThru ?_ (by assumption)) | (with_reducible refine belowAlloc ?_))) hb
  have hzw4 := hBw.size
  clear hb
  go_wp2_with fail
  refine (HAL.out _ (HR.out.later (by (repeat' first | (with_reducible exact Below.refl _ _) | (with_reducible assumption) | (with_reducible refine belowThru ?_ (by assumption)) | (with_reducible refine belowAlloc ?_)))) (HR2.out.later (by (repeat' first | (with_reducible exact Below.refl _ _) | (with_reducible assumption) | (with_reducible refine belowThru ?_ (by assumption)) | (with_reducible refine belowAlloc ?_))))).mono ?_
  rintro e w5 ⟨v, c', rfl, hRow, hb⟩
  have HQ := Lib.hid hRow
  clear hRow
  have kn0 : Blk w5 (w.heap.size) #[.int .i64 t, .int .i64 nz, .int .i64 s1, .int .i64 s2, .int .i64 s3, .int .i64 s4, .int .i64 l1, .int .i64 l2, .int .i64 h1, .int .i64 h2] 41 := Blk.later hb (by (repeat' first | (with_reducible assumption) | ((with_reducible refine Blk.new ?_); first | rfl | (simp; done)) | (with_reducible refine Blk.alloc ?_)))
  have kn1 : Blk w5 (w2.heap.size) #[.int .i64 Z1, .int .i64 Z2, .int .i64 Z3, .int .i64 Z4] 30 := Blk.later hb (by (repeat' first | (with_reducible assumption) | ((with_reducible refine Blk.new ?_); first | rfl | (simp; done)) | (with_reducible refine Blk.alloc ?_)))
  clear k0 a0 b0 y0
  clear k1 a1 b1 y1
  have k0 := kn0; clear kn0; obtain ⟨a0, b0⟩ := k0.read; have y0 := k0.lt
  have k1 := kn1; clear kn1; obtain ⟨a1, b1⟩ := k1.read; have y1 := k1.lt
  replace hBw : Below w.heap.size w w5 := belowThru (by (repeat' first | (with_reducible exact Below.refl _ _) | (with_reducible assumption) | (with_reducible refine belowThru ?_ (by assumption)) | (with_reducible refine belowAlloc ?_))) hb
  have hzw5 := hBw.size
  clear hb
  have hb1 : Below w5.heap.size w5 w5 := Below.refl _ _
  go_wp2_with fail
  refine (HA.out _ _ _ (HQ.out.later (by (repeat' first | (with_reducible exact Below.refl _ _) | (with_reducible assumption) | (with_reducible refine belowThru ?_ (by assumption)) | (with_reducible refine belowAlloc ?_))))).mono ?_
  rintro e w6 ⟨rfl, hb⟩
  replace hb1 : Below w5.heap.size w5 w6 := belowThru (by (repeat' first | (with_reducible exact Below.refl _ _) | (with_reducible assumption) | (with_reducible refine belowThru ?_ (by assumption)) | (with_reducible refine belowAlloc ?_))) hb
  have kn0 : Blk w6 (w.heap.size) #[.int .i64 t, .int .i64 nz, .int .i64 s1, .int .i64 s2, .int .i64 s3, .int .i64 s4, .int .i64 l1, .int .i64 l2, .int .i64 h1, .int .i64 h2] 41 := Blk.later hb (by (repeat' first | (with_reducible assumption) | ((with_reducible refine Blk.new ?_); first | rfl | (simp; done)) | (with_reducible refine Blk.alloc ?_)))
  have kn1 : Blk w6 (w2.heap.size) #[.int .i64 Z1, .int .i64 Z2, .int .i64 Z3, .int .i64 Z4] 30 := Blk.later hb (by (repeat' first | (with_reducible assumption) | ((with_reducible refine Blk.new ?_); first | rfl | (simp; done)) | (with_reducible refine Blk.alloc ?_)))
  clear k0 a0 b0 y0
  clear k1 a1 b1 y1
  have k0 := kn0; clear kn0; obtain ⟨a0, b0⟩ := k0.read; have y0 := k0.lt
  have k1 := kn1; clear kn1; obtain ⟨a1, b1⟩ := k1.read; have y1 := k1.lt
  replace hBw : Below w.heap.size w w6 := belowThru (by (repeat' first | (with_reducible exact Below.refl _ _) | (with_reducible assumption) | (with_reducible refine belowThru ?_ (by assumption)) | (with_reducible refine belowAlloc ?_))) hb
  have hzw6 := hBw.size
  clear hb
  go_wp2_with fail
  obtain ⟨Wp, rfl⟩ : ∃ Wp, Wp = w6 := ⟨_, rfl⟩
  clear a0 b0 y0; have y0 := k0.lt
  clear a1 b1 y1; have y1 := k1.lt
  refine wp_region_held_drew (S := fun w' => (Blk w' (w.heap.size) #[.int .i64 t, .int .i64 nz, .int .i64 s1, .int .i64 s2, .int .i64 s3, .int .i64 s4, .int .i64 l1, .int .i64 l2, .int .i64 h1, .int .i64 h2] 41 ∧ (∀ i : Nat, w'.cell? ⟨w.heap.size, i, none⟩ = (#[.int .i64 t, .int .i64 nz, .int .i64 s1, .int .i64 s2, .int .i64 s3, .int .i64 s4, .int .i64 l1, .int .i64 l2, .int .i64 h1, .int .i64 h2] : Array Value)[i]?)) ∧ Below w.heap.size w w') hmx ⟨k0.drew.full, hBw.drew⟩ (fun hHeld => ?_)
  obtain ⟨Wd, hWd⟩ : ∃ Wd, Wp.drew = Wd := ⟨_, rfl⟩
  have q0 : Blk Wd (w.heap.size) #[.int .i64 t, .int .i64 nz, .int .i64 s1, .int .i64 s2, .int .i64 s3, .int .i64 s4, .int .i64 l1, .int .i64 l2, .int .i64 h1, .int .i64 h2] 41 := by rw [← hWd]; exact k0.drew
  have q1 : Blk Wd (w2.heap.size) #[.int .i64 Z1, .int .i64 Z2, .int .i64 Z3, .int .i64 Z4] 30 := by rw [← hWd]; exact k1.drew
  have hBd : Below w.heap.size w Wd := by rw [← hWd]; exact hBw.drew
  have hb1d : Below w5.heap.size w5 Wd := by rw [← hWd]; exact hb1.drew
  rw [hWd] at hHeld ⊢
  clear hWd k0 k1 y0 y1 hBw hb1
  refine wpAnyH_take (i := 0) (v := ?_) rfl (by kernel_rfl) (by kernel_rfl) (by kernel_rfl) (fun _ _ _ h => h) (Or.inl ⟨by rfl, ?hT8⟩) (by assumption) ?_
  case hT8 => ((intro w hSw; (try dsimp only at hSw); go_simp); try (with_reducible rfl))
  try simp only [Act.put, List.setIfInBounds_toArray, List.set_cons_zero, List.set_cons_succ]
  refine wpAnyH_take (i := 2) (v := ?_) rfl (by kernel_rfl) (by kernel_rfl) (by kernel_rfl) (fun _ _ _ h => h) (Or.inl ⟨by rfl, ?hT9⟩) (by assumption) ?_
  case hT9 => ((intro w hSw; (try dsimp only at hSw); go_simp); try (with_reducible rfl))
  try simp only [Act.put, List.setIfInBounds_toArray, List.set_cons_zero, List.set_cons_succ]
  refine wpAnyH_take (i := 3) (v := ?_) rfl (by kernel_rfl) (by kernel_rfl) (by kernel_rfl) (fun _ _ _ h => h) (Or.inl ⟨by rfl, ?hT10⟩) (by assumption) ?_
  case hT10 => ((intro w hSw; (try dsimp only at hSw); go_simp); try (with_reducible rfl))
  try simp only [Act.put, List.setIfInBounds_toArray, List.set_cons_zero, List.set_cons_succ]
  refine wpAnyH_take (i := 4) (v := ?_) rfl (by kernel_rfl) (by kernel_rfl) (by kernel_rfl) (fun _ _ _ h => h) (Or.inl ⟨by rfl, ?hT11⟩) (by assumption) ?_
  case hT11 => ((intro w hSw; (try dsimp only at hSw); go_simp); try (with_reducible rfl))
  try simp only [Act.put, List.setIfInBounds_toArray, List.set_cons_zero, List.set_cons_succ]
  refine wpAnyH_ready (rs := [1]) (by kernel_rfl) (by simp) ?_
  refine AllReadyH.cons rfl (fun K hK => ?_) AllReadyH.nil
  go_simp
  refine (HRV.out _ _ _ (HQ.out.later hb1d)).mono ?_
  rintro e w7 ⟨v', c'', rfl, hRow, hb⟩
  have HB := Lib.hid hRow
  clear hRow
  have k0 := Blk.later hb q0; have k1 := Blk.later hb q1; have hBw : Below w.heap.size w w7 := belowThru hBd hb
  clear q0 q1 hBd hb1d hb
  try go_simp
  refine hK.out _ _ ?_ (fun hHeldN => ?_)
  · (try dsimp only); exact ⟨k0.full, hBw⟩
  clear hK K hHeld
  have hHeld := hHeldN
  clear hHeldN
  try simp only [Act.put, List.setIfInBounds_toArray, List.set_cons_zero, List.set_cons_succ]
  refine wpAnyH_ready (rs := [5]) (by kernel_rfl) (by simp) ?_
  refine AllReadyH.cons rfl (fun K hK => ?_) AllReadyH.nil
  go_simp
  refine (HC.out _ _ _ HB.out).mono ?_
  rintro e w8 ⟨rfl, hb⟩
  replace k0 := Blk.later hb k0; replace k1 := Blk.later hb k1; replace hBw : Below w.heap.size w w8 := belowThru hBw hb
  clear hb
  try go_simp
  refine hK.out _ _ ?_ (fun hHeldN => ?_)
  · (try dsimp only); exact ⟨k0.full, hBw⟩
  clear hK K hHeld
  have hHeld := hHeldN
  clear hHeldN
  try simp only [Act.put, List.setIfInBounds_toArray, List.set_cons_zero, List.set_cons_succ]
  refine wpAnyH_take (i := 6) (v := ?_) rfl (by kernel_rfl) (by kernel_rfl) (by kernel_rfl) (fun _ _ _ h => h) (Or.inl ⟨by rfl, ?hT12⟩) (by assumption) ?_
  case hT12 => ((intro w hSw; (try dsimp only at hSw); go_simp); try (with_reducible rfl))
  try simp only [Act.put, List.setIfInBounds_toArray, List.set_cons_zero, List.set_cons_succ]
  refine wpAnyH_take (i := 7) (v := ?_) rfl (by kernel_rfl) (by kernel_rfl) (by kernel_rfl) (fun _ _ _ h => h) (Or.inl ⟨by rfl, ?hT13⟩) (by assumption) ?_
  case hT13 => ((intro w hSw; (try dsimp only at hSw); go_simp); try (with_reducible rfl))
  try simp only [Act.put, List.setIfInBounds_toArray, List.set_cons_zero, List.set_cons_succ]
  refine wpAnyH_take (i := 8) (v := ?_) rfl (by kernel_rfl) (by kernel_rfl) (by kernel_rfl) (fun _ _ _ h => h) (Or.inl ⟨by rfl, ?hT14⟩) (by assumption) ?_
  case hT14 => ((intro w hSw; (try dsimp only at hSw); go_simp); try (with_reducible rfl))
  try simp only [Act.put, List.setIfInBounds_toArray, List.set_cons_zero, List.set_cons_succ]
  refine wpAnyH_take (i := 9) (v := ?_) rfl (by kernel_rfl) (by kernel_rfl) (by kernel_rfl) (fun _ _ _ h => h) (Or.inl ⟨by rfl, ?hT15⟩) (by assumption) ?_
  case hT15 => ((intro w hSw; (try dsimp only at hSw); go_simp); try (with_reducible rfl))
  try simp only [Act.put, List.setIfInBounds_toArray, List.set_cons_zero, List.set_cons_succ]
  refine wpAnyH_ready (rs := [10]) (by kernel_rfl) (by simp) ?_
  refine AllReadyH.cons rfl (fun K hK => ?_) AllReadyH.nil
  go_simp
  refine hK.out _ _ ?_ (fun hHeldN => ?_)
  · (try dsimp only); exact ⟨k0.full, hBw⟩
  clear hK K hHeld
  have hHeld := hHeldN
  clear hHeldN
  try simp only [Act.put, List.setIfInBounds_toArray, List.set_cons_zero, List.set_cons_succ]
  refine wpAnyH_ready (rs := [11]) (by kernel_rfl) (by simp) ?_
  refine AllReadyH.cons rfl (fun K hK => ?_) AllReadyH.nil
  go_simp
  refine hK.out _ _ ?_ (fun hHeldN => ?_)
  · (try dsimp only); exact ⟨k0.full, hBw⟩
  clear hK K hHeld
  have hHeld := hHeldN
  clear hHeldN
  try simp only [Act.put, List.setIfInBounds_toArray, List.set_cons_zero, List.set_cons_succ]
  refine wpAnyH_ready (rs := [12]) (by kernel_rfl) (by simp) ?_
  refine AllReadyH.cons rfl (fun K hK => ?_) AllReadyH.nil
  go_simp
  refine hK.out _ _ ?_ (fun hHeldN => ?_)
  · (try dsimp only); exact ⟨k0.full, hBw⟩
  clear hK K hHeld
  have hHeld := hHeldN
  clear hHeldN
  try simp only [Act.put, List.setIfInBounds_toArray, List.set_cons_zero, List.set_cons_succ]
  refine wpAnyH_done (by kernel_rfl) ?_ _
  obtain ⟨a0, b0⟩ := k0.read; have y0 := k0.lt
  obtain ⟨a1, b1⟩ := k1.read; have y1 := k1.lt
  have hzw8 := hBw.size
  go_wp2_with fail
  refine (HMk.out _).mono ?_
  rintro e w9 ⟨rfl, hb⟩
  have kn0 : Blk w9 (w.heap.size) #[.int .i64 t, .int .i64 nz, .int .i64 s1, .int .i64 s2, .int .i64 s3, .int .i64 s4, .int .i64 l1, .int .i64 l2, .int .i64 h1, .int .i64 h2] 41 := Blk.later hb (by (repeat' first | (with_reducible assumption) | ((with_reducible refine Blk.new ?_); first | rfl | (simp; done)) | (with_reducible refine Blk.alloc ?_)))
  have kn1 : Blk w9 (w2.heap.size) #[.int .i64 Z1, .int .i64 Z2, .int .i64 Z3, .int .i64 Z4] 30 := Blk.later hb (by (repeat' first | (with_reducible assumption) | ((with_reducible refine Blk.new ?_); first | rfl | (simp; done)) | (with_reducible refine Blk.alloc ?_)))
  have kn2 : Blk w9 (w8.heap.size) #[.int .i64 s3, .int .i64 s4] 23 := Blk.later hb (by (repeat' first | (with_reducible assumption) | ((with_reducible refine Blk.new ?_); first | rfl | (simp; done)) | (with_reducible refine Blk.alloc ?_)))
  clear k0 a0 b0 y0
  clear k1 a1 b1 y1
  have k0 := kn0; clear kn0; obtain ⟨a0, b0⟩ := k0.read; have y0 := k0.lt
  have k1 := kn1; clear kn1; obtain ⟨a1, b1⟩ := k1.read; have y1 := k1.lt
  have k2 := kn2; clear kn2; obtain ⟨a2, b2⟩ := k2.read; have y2 := k2.lt
  replace hBw : Below w.heap.size w w9 := belowThru (by (repeat' first | (with_reducible exact Below.refl _ _) | (with_reducible assumption) | (with_reducible refine belowThru ?_ (by assumption)) | (with_reducible refine belowAlloc ?_))) hb
  have hzw9 := hBw.size
  clear hb
  go_wp2_with fail
  refine (HMu.out _).mono ?_
  rintro e w10 ⟨rfl, hb⟩
  have kn0 : Blk w10 (w.heap.size) #[.int .i64 t, .int .i64 nz, .int .i64 s1, .int .i64 s2, .int .i64 s3, .int .i64 s4, .int .i64 l1, .int .i64 l2, .int .i64 h1, .int .i64 h2] 41 := Blk.later hb (by (repeat' first | (with_reducible assumption) | ((with_reducible refine Blk.new ?_); first | rfl | (simp; done)) | (with_reducible refine Blk.alloc ?_)))
  have kn1 : Blk w10 (w2.heap.size) #[.int .i64 Z1, .int .i64 Z2, .int .i64 Z3, .int .i64 Z4] 30 := Blk.later hb (by (repeat' first | (with_reducible assumption) | ((with_reducible refine Blk.new ?_); first | rfl | (simp; done)) | (with_reducible refine Blk.alloc ?_)))
  have kn2 : Blk w10 (w8.heap.size) #[.int .i64 s3, .int .i64 s4] 23 := Blk.later hb (by (repeat' first | (with_reducible assumption) | ((with_reducible refine Blk.new ?_); first | rfl | (simp; done)) | (with_reducible refine Blk.alloc ?_)))
  have kn3 : Blk w10 (w9.heap.size) #[.int .i64 p1, .int .i64 p2] 23 := Blk.later hb (by (repeat' first | (with_reducible assumption) | ((with_reducible refine Blk.new ?_); first | rfl | (simp; done)) | (with_reducible refine Blk.alloc ?_)))
  clear k0 a0 b0 y0
  clear k1 a1 b1 y1
  clear k2 a2 b2 y2
  have k0 := kn0; clear kn0; obtain ⟨a0, b0⟩ := k0.read; have y0 := k0.lt
  have k1 := kn1; clear kn1; obtain ⟨a1, b1⟩ := k1.read; have y1 := k1.lt
  have k2 := kn2; clear kn2; obtain ⟨a2, b2⟩ := k2.read; have y2 := k2.lt
  have k3 := kn3; clear kn3; obtain ⟨a3, b3⟩ := k3.read; have y3 := k3.lt
  replace hBw : Below w.heap.size w w10 := belowThru (by (repeat' first | (with_reducible exact Below.refl _ _) | (with_reducible assumption) | (with_reducible refine belowThru ?_ (by assumption)) | (with_reducible refine belowAlloc ?_))) hb
  have hzw10 := hBw.size
  clear hb
  go_wp2_with fail
  refine (HI.out _).mono ?_
  rintro e w11 ⟨rfl, hb⟩
  have kn0 : Blk w11 (w.heap.size) #[.int .i64 t, .int .i64 nz, .int .i64 s1, .int .i64 s2, .int .i64 s3, .int .i64 s4, .int .i64 l1, .int .i64 l2, .int .i64 h1, .int .i64 h2] 41 := Blk.later hb (by (repeat' first | (with_reducible assumption) | ((with_reducible refine Blk.new ?_); first | rfl | (simp; done)) | (with_reducible refine Blk.alloc ?_)))
  have kn1 : Blk w11 (w2.heap.size) #[.int .i64 Z1, .int .i64 Z2, .int .i64 Z3, .int .i64 Z4] 30 := Blk.later hb (by (repeat' first | (with_reducible assumption) | ((with_reducible refine Blk.new ?_); first | rfl | (simp; done)) | (with_reducible refine Blk.alloc ?_)))
  have kn2 : Blk w11 (w8.heap.size) #[.int .i64 s3, .int .i64 s4] 23 := Blk.later hb (by (repeat' first | (with_reducible assumption) | ((with_reducible refine Blk.new ?_); first | rfl | (simp; done)) | (with_reducible refine Blk.alloc ?_)))
  have kn3 : Blk w11 (w9.heap.size) #[.int .i64 p1, .int .i64 p2] 23 := Blk.later hb (by (repeat' first | (with_reducible assumption) | ((with_reducible refine Blk.new ?_); first | rfl | (simp; done)) | (with_reducible refine Blk.alloc ?_)))
  have kn4 : Blk w11 (w10.heap.size) #[.int .i64 q1, .int .i64 q2] 23 := Blk.later hb (by (repeat' first | (with_reducible assumption) | ((with_reducible refine Blk.new ?_); first | rfl | (simp; done)) | (with_reducible refine Blk.alloc ?_)))
  clear k0 a0 b0 y0
  clear k1 a1 b1 y1
  clear k2 a2 b2 y2
  clear k3 a3 b3 y3
  have k0 := kn0; clear kn0; obtain ⟨a0, b0⟩ := k0.read; have y0 := k0.lt
  have k1 := kn1; clear kn1; obtain ⟨a1, b1⟩ := k1.read; have y1 := k1.lt
  have k2 := kn2; clear kn2; obtain ⟨a2, b2⟩ := k2.read; have y2 := k2.lt
  have k3 := kn3; clear kn3; obtain ⟨a3, b3⟩ := k3.read; have y3 := k3.lt
  have k4 := kn4; clear kn4; obtain ⟨a4, b4⟩ := k4.read; have y4 := k4.lt
  replace hBw : Below w.heap.size w w11 := belowThru (by (repeat' first | (with_reducible exact Below.refl _ _) | (with_reducible assumption) | (with_reducible refine belowThru ?_ (by assumption)) | (with_reducible refine belowAlloc ?_))) hb
  have hzw11 := hBw.size
  clear hb
  go_wp2_with fail
  refine (HJ.out _).mono ?_
  rintro e w12 ⟨rfl, hb⟩
  have kn0 : Blk w12 (w.heap.size) #[.int .i64 t, .int .i64 nz, .int .i64 s1, .int .i64 s2, .int .i64 s3, .int .i64 s4, .int .i64 l1, .int .i64 l2, .int .i64 h1, .int .i64 h2] 41 := Blk.later hb (by (repeat' first | (with_reducible assumption) | ((with_reducible refine Blk.new ?_); first | rfl | (simp; done)) | (with_reducible refine Blk.alloc ?_)))
  have kn1 : Blk w12 (w2.heap.size) #[.int .i64 Z1, .int .i64 Z2, .int .i64 Z3, .int .i64 Z4] 30 := Blk.later hb (by (repeat' first | (with_reducible assumption) | ((with_reducible refine Blk.new ?_); first | rfl | (simp; done)) | (with_reducible refine Blk.alloc ?_)))
  have kn2 : Blk w12 (w8.heap.size) #[.int .i64 s3, .int .i64 s4] 23 := Blk.later hb (by (repeat' first | (with_reducible assumption) | ((with_reducible refine Blk.new ?_); first | rfl | (simp; done)) | (with_reducible refine Blk.alloc ?_)))
  have kn3 : Blk w12 (w9.heap.size) #[.int .i64 p1, .int .i64 p2] 23 := Blk.later hb (by (repeat' first | (with_reducible assumption) | ((with_reducible refine Blk.new ?_); first | rfl | (simp; done)) | (with_reducible refine Blk.alloc ?_)))
  have kn4 : Blk w12 (w10.heap.size) #[.int .i64 q1, .int .i64 q2] 23 := Blk.later hb (by (repeat' first | (with_reducible assumption) | ((with_reducible refine Blk.new ?_); first | rfl | (simp; done)) | (with_reducible refine Blk.alloc ?_)))
  clear k0 a0 b0 y0
  clear k1 a1 b1 y1
  clear k2 a2 b2 y2
  clear k3 a3 b3 y3
  clear k4 a4 b4 y4
  have k0 := kn0; clear kn0; obtain ⟨a0, b0⟩ := k0.read; have y0 := k0.lt
  have k1 := kn1; clear kn1; obtain ⟨a1, b1⟩ := k1.read; have y1 := k1.lt
  have k2 := kn2; clear kn2; obtain ⟨a2, b2⟩ := k2.read; have y2 := k2.lt
  have k3 := kn3; clear kn3; obtain ⟨a3, b3⟩ := k3.read; have y3 := k3.lt
  have k4 := kn4; clear kn4; obtain ⟨a4, b4⟩ := k4.read; have y4 := k4.lt
  replace hBw : Below w.heap.size w w12 := belowThru (by (repeat' first | (with_reducible exact Below.refl _ _) | (with_reducible assumption) | (with_reducible refine belowThru ?_ (by assumption)) | (with_reducible refine belowAlloc ?_))) hb
  have hzw12 := hBw.size
  clear hb
  rcases zcases Z1 Z2 Z3 Z4 with hz | ⟨rfl, hz⟩ | ⟨rfl, rfl, hz⟩ | ⟨rfl, rfl, rfl, hz⟩ | ⟨rfl, rfl, rfl, rfl⟩
  · have hz1 : (Z1 == 0) = false := by simpa using hz
    have hz2 : decide (Z1 = 0) = false := by simpa using hz
    go_wp2_with fail
    obtain ⟨Wp, rfl⟩ : ∃ Wp, Wp = w12 := ⟨_, rfl⟩
    clear a0 b0 y0; have y0 := k0.lt
    clear a1 b1 y1; have y1 := k1.lt
    clear a2 b2 y2; have y2 := k2.lt
    clear a3 b3 y3; have y3 := k3.lt
    clear a4 b4 y4; have y4 := k4.lt
    go_cut [30] (fun s30 wx => s30 = .bool false ∧ Below Wp.heap.size Wp wx)
    case first =>
      go_region_held3 (fun w' => (Blk w' (w2.heap.size) #[.int .i64 Z1, .int .i64 Z2, .int .i64 Z3, .int .i64 Z4] 30 ∧ (∀ i : Nat, w'.cell? ⟨w2.heap.size, i, none⟩ = (#[.int .i64 Z1, .int .i64 Z2, .int .i64 Z3, .int .i64 Z4] : Array Value)[i]?)) ∧ Below Wp.heap.size Wp w')
        (((first | (apply hold1T; (focus assumption); intro p0 pB) | skip); refine ⟨Blk.full ?_, ?_⟩; all_goals (first | ((repeat' (first | (with_reducible assumption) | ((with_reducible refine Blk.new ?_); first | rfl | (simp; done)) | (with_reducible refine Blk.later (by assumption) ?_) | (with_reducible refine Blk.alloc ?_) | (with_reducible refine Blk.drewN ?_) | (with_reducible refine Blk.drew ?_) | (with_reducible refine Blk.other ?_ (by first | omega | (simp; done) | (simp; omega))))); done) | ((repeat' (first | (with_reducible exact Below.refl _ _) | (with_reducible assumption) | (with_reducible refine belowThru ?_ (by assumption)) | (with_reducible refine belowAlloc ?_) | (with_reducible refine Below.setCell ?_ (by first | omega | (simp; done) | (simp; omega)) _) | (with_reducible refine Below.drew ?_) | (with_reducible refine below_drewN ?_ _))); done) | exact Below.refl _ _)))
        (first
        | (go_at_call 23; (with_reducible refine (HF.out _).mono ?_); rintro e w1 ⟨rfl, hb⟩))
      all_goals
        apply hold1T; (focus assumption); intro p0 pB
        go_wp2_with fail
        go_meet
        exact ⟨rfl, pB⟩
    case rest =>
      obtain ⟨rfl, hb⟩ := hcut
      obtain ⟨w13, rfl⟩ : ∃ z, z = wc := ⟨_, rfl⟩
      replace k0 := Blk.later hb k0; clear y0; obtain ⟨a0, b0⟩ := k0.read; have y0 := k0.lt
      replace k1 := Blk.later hb k1; clear y1; obtain ⟨a1, b1⟩ := k1.read; have y1 := k1.lt
      replace k2 := Blk.later hb k2; clear y2; obtain ⟨a2, b2⟩ := k2.read; have y2 := k2.lt
      replace k3 := Blk.later hb k3; clear y3; obtain ⟨a3, b3⟩ := k3.read; have y3 := k3.lt
      replace k4 := Blk.later hb k4; clear y4; obtain ⟨a4, b4⟩ := k4.read; have y4 := k4.lt
      replace hBw : Below w.heap.size w w13 := belowThru hBw hb
      have hzw13 := hBw.size
      clear hb
      go_wp2_with fail
      all_goals
        go_ret
        exact ⟨rfl, by (repeat' first | (with_reducible exact Below.refl _ _) | (with_reducible assumption) | (with_reducible refine belowThru ?_ (by assumption)) | (with_reducible refine belowAlloc ?_))⟩
  · have hz1 : (Z2 == 1) = false := by simpa using hz
    have hz2 : decide (Z2 = 1) = false := by simpa using hz
    go_wp2_with fail
    obtain ⟨Wp, rfl⟩ : ∃ Wp, Wp = w12 := ⟨_, rfl⟩
    clear a0 b0 y0; have y0 := k0.lt
    clear a1 b1 y1; have y1 := k1.lt
    clear a2 b2 y2; have y2 := k2.lt
    clear a3 b3 y3; have y3 := k3.lt
    clear a4 b4 y4; have y4 := k4.lt
    go_cut [30] (fun s30 wx => s30 = .bool false ∧ Below Wp.heap.size Wp wx)
    case first =>
      go_region_held3 (fun w' => (Blk w' (w2.heap.size) #[.int .i64 0, .int .i64 Z2, .int .i64 Z3, .int .i64 Z4] 30 ∧ (∀ i : Nat, w'.cell? ⟨w2.heap.size, i, none⟩ = (#[.int .i64 0, .int .i64 Z2, .int .i64 Z3, .int .i64 Z4] : Array Value)[i]?)) ∧ Below Wp.heap.size Wp w')
        (((first | (apply hold1T; (focus assumption); intro p0 pB) | skip); refine ⟨Blk.full ?_, ?_⟩; all_goals (first | ((repeat' (first | (with_reducible assumption) | ((with_reducible refine Blk.new ?_); first | rfl | (simp; done)) | (with_reducible refine Blk.later (by assumption) ?_) | (with_reducible refine Blk.alloc ?_) | (with_reducible refine Blk.drewN ?_) | (with_reducible refine Blk.drew ?_) | (with_reducible refine Blk.other ?_ (by first | omega | (simp; done) | (simp; omega))))); done) | ((repeat' (first | (with_reducible exact Below.refl _ _) | (with_reducible assumption) | (with_reducible refine belowThru ?_ (by assumption)) | (with_reducible refine belowAlloc ?_) | (with_reducible refine Below.setCell ?_ (by first | omega | (simp; done) | (simp; omega)) _) | (with_reducible refine Below.drew ?_) | (with_reducible refine below_drewN ?_ _))); done) | exact Below.refl _ _)))
        (first
        | (go_at_call 23; (with_reducible refine (HF.out _).mono ?_); rintro e w1 ⟨rfl, hb⟩))
      all_goals
        apply hold1T; (focus assumption); intro p0 pB
        go_wp2_with fail
        go_meet
        exact ⟨rfl, pB⟩
    case rest =>
      obtain ⟨rfl, hb⟩ := hcut
      obtain ⟨w13, rfl⟩ : ∃ z, z = wc := ⟨_, rfl⟩
      replace k0 := Blk.later hb k0; clear y0; obtain ⟨a0, b0⟩ := k0.read; have y0 := k0.lt
      replace k1 := Blk.later hb k1; clear y1; obtain ⟨a1, b1⟩ := k1.read; have y1 := k1.lt
      replace k2 := Blk.later hb k2; clear y2; obtain ⟨a2, b2⟩ := k2.read; have y2 := k2.lt
      replace k3 := Blk.later hb k3; clear y3; obtain ⟨a3, b3⟩ := k3.read; have y3 := k3.lt
      replace k4 := Blk.later hb k4; clear y4; obtain ⟨a4, b4⟩ := k4.read; have y4 := k4.lt
      replace hBw : Below w.heap.size w w13 := belowThru hBw hb
      have hzw13 := hBw.size
      clear hb
      go_wp2_with fail
      all_goals
        go_ret
        exact ⟨rfl, by (repeat' first | (with_reducible exact Below.refl _ _) | (with_reducible assumption) | (with_reducible refine belowThru ?_ (by assumption)) | (with_reducible refine belowAlloc ?_))⟩
  · have hz1 : (Z3 == 0) = false := by simpa using hz
    have hz2 : decide (Z3 = 0) = false := by simpa using hz
    go_wp2_with fail
    obtain ⟨Wp, rfl⟩ : ∃ Wp, Wp = w12 := ⟨_, rfl⟩
    clear a0 b0 y0; have y0 := k0.lt
    clear a1 b1 y1; have y1 := k1.lt
    clear a2 b2 y2; have y2 := k2.lt
    clear a3 b3 y3; have y3 := k3.lt
    clear a4 b4 y4; have y4 := k4.lt
    go_cut [30] (fun s30 wx => s30 = .bool false ∧ Below Wp.heap.size Wp wx)
    case first =>
      go_region_held3 (fun w' => (Blk w' (w2.heap.size) #[.int .i64 0, .int .i64 1, .int .i64 Z3, .int .i64 Z4] 30 ∧ (∀ i : Nat, w'.cell? ⟨w2.heap.size, i, none⟩ = (#[.int .i64 0, .int .i64 1, .int .i64 Z3, .int .i64 Z4] : Array Value)[i]?)) ∧ Below Wp.heap.size Wp w')
        (((first | (apply hold1T; (focus assumption); intro p0 pB) | skip); refine ⟨Blk.full ?_, ?_⟩; all_goals (first | ((repeat' (first | (with_reducible assumption) | ((with_reducible refine Blk.new ?_); first | rfl | (simp; done)) | (with_reducible refine Blk.later (by assumption) ?_) | (with_reducible refine Blk.alloc ?_) | (with_reducible refine Blk.drewN ?_) | (with_reducible refine Blk.drew ?_) | (with_reducible refine Blk.other ?_ (by first | omega | (simp; done) | (simp; omega))))); done) | ((repeat' (first | (with_reducible exact Below.refl _ _) | (with_reducible assumption) | (with_reducible refine belowThru ?_ (by assumption)) | (with_reducible refine belowAlloc ?_) | (with_reducible refine Below.setCell ?_ (by first | omega | (simp; done) | (simp; omega)) _) | (with_reducible refine Below.drew ?_) | (with_reducible refine below_drewN ?_ _))); done) | exact Below.refl _ _)))
        (first
        | (go_at_call 23; (with_reducible refine (HF.out _).mono ?_); rintro e w1 ⟨rfl, hb⟩))
      all_goals
        apply hold1T; (focus assumption); intro p0 pB
        go_wp2_with fail
        go_meet
        exact ⟨rfl, pB⟩
    case rest =>
      obtain ⟨rfl, hb⟩ := hcut
      obtain ⟨w13, rfl⟩ : ∃ z, z = wc := ⟨_, rfl⟩
      replace k0 := Blk.later hb k0; clear y0; obtain ⟨a0, b0⟩ := k0.read; have y0 := k0.lt
      replace k1 := Blk.later hb k1; clear y1; obtain ⟨a1, b1⟩ := k1.read; have y1 := k1.lt
      replace k2 := Blk.later hb k2; clear y2; obtain ⟨a2, b2⟩ := k2.read; have y2 := k2.lt
      replace k3 := Blk.later hb k3; clear y3; obtain ⟨a3, b3⟩ := k3.read; have y3 := k3.lt
      replace k4 := Blk.later hb k4; clear y4; obtain ⟨a4, b4⟩ := k4.read; have y4 := k4.lt
      replace hBw : Below w.heap.size w w13 := belowThru hBw hb
      have hzw13 := hBw.size
      clear hb
      go_wp2_with fail
      all_goals
        go_ret
        exact ⟨rfl, by (repeat' first | (with_reducible exact Below.refl _ _) | (with_reducible assumption) | (with_reducible refine belowThru ?_ (by assumption)) | (with_reducible refine belowAlloc ?_))⟩
  · have hz1 : (Z4 == 1) = false := by simpa using hz
    have hz2 : decide (Z4 = 1) = false := by simpa using hz
    go_wp2_with fail
    obtain ⟨Wp, rfl⟩ : ∃ Wp, Wp = w12 := ⟨_, rfl⟩
    clear a0 b0 y0; have y0 := k0.lt
    clear a1 b1 y1; have y1 := k1.lt
    clear a2 b2 y2; have y2 := k2.lt
    clear a3 b3 y3; have y3 := k3.lt
    clear a4 b4 y4; have y4 := k4.lt
    go_cut [30] (fun s30 wx => s30 = .bool false ∧ Below Wp.heap.size Wp wx)
    case first =>
      go_region_held3 (fun w' => (Blk w' (w2.heap.size) #[.int .i64 0, .int .i64 1, .int .i64 0, .int .i64 Z4] 30 ∧ (∀ i : Nat, w'.cell? ⟨w2.heap.size, i, none⟩ = (#[.int .i64 0, .int .i64 1, .int .i64 0, .int .i64 Z4] : Array Value)[i]?)) ∧ Below Wp.heap.size Wp w')
        (((first | (apply hold1T; (focus assumption); intro p0 pB) | skip); refine ⟨Blk.full ?_, ?_⟩; all_goals (first | ((repeat' (first | (with_reducible assumption) | ((with_reducible refine Blk.new ?_); first | rfl | (simp; done)) | (with_reducible refine Blk.later (by assumption) ?_) | (with_reducible refine Blk.alloc ?_) | (with_reducible refine Blk.drewN ?_) | (with_reducible refine Blk.drew ?_) | (with_reducible refine Blk.other ?_ (by first | omega | (simp; done) | (simp; omega))))); done) | ((repeat' (first | (with_reducible exact Below.refl _ _) | (with_reducible assumption) | (with_reducible refine belowThru ?_ (by assumption)) | (with_reducible refine belowAlloc ?_) | (with_reducible refine Below.setCell ?_ (by first | omega | (simp; done) | (simp; omega)) _) | (with_reducible refine Below.drew ?_) | (with_reducible refine below_drewN ?_ _))); done) | exact Below.refl _ _)))
        (first
        | (go_at_call 23; (with_reducible refine (HF.out _).mono ?_); rintro e w1 ⟨rfl, hb⟩))
      all_goals
        apply hold1T; (focus assumption); intro p0 pB
        go_wp2_with fail
        go_meet
        exact ⟨rfl, pB⟩
    case rest =>
      obtain ⟨rfl, hb⟩ := hcut
      obtain ⟨w13, rfl⟩ : ∃ z, z = wc := ⟨_, rfl⟩
      replace k0 := Blk.later hb k0; clear y0; obtain ⟨a0, b0⟩ := k0.read; have y0 := k0.lt
      replace k1 := Blk.later hb k1; clear y1; obtain ⟨a1, b1⟩ := k1.read; have y1 := k1.lt
      replace k2 := Blk.later hb k2; clear y2; obtain ⟨a2, b2⟩ := k2.read; have y2 := k2.lt
      replace k3 := Blk.later hb k3; clear y3; obtain ⟨a3, b3⟩ := k3.read; have y3 := k3.lt
      replace k4 := Blk.later hb k4; clear y4; obtain ⟨a4, b4⟩ := k4.read; have y4 := k4.lt
      replace hBw : Below w.heap.size w w13 := belowThru hBw hb
      have hzw13 := hBw.size
      clear hb
      go_wp2_with fail
      all_goals
        go_ret
        exact ⟨rfl, by (repeat' first | (with_reducible exact Below.refl _ _) | (with_reducible assumption) | (with_reducible refine belowThru ?_ (by assumption)) | (with_reducible refine belowAlloc ?_))⟩
  · go_wp2_with fail
    obtain ⟨Wp, rfl⟩ : ∃ Wp, Wp = w12 := ⟨_, rfl⟩
    clear a0 b0 y0; have y0 := k0.lt
    clear a1 b1 y1; have y1 := k1.lt
    clear a2 b2 y2; have y2 := k2.lt
    clear a3 b3 y3; have y3 := k3.lt
    clear a4 b4 y4; have y4 := k4.lt
    go_cut [30] (fun s30 wx => s30 = .bool true ∧ Below Wp.heap.size Wp wx)
    case first =>
      go_region_held3 (fun w' => (Blk w' (w2.heap.size) #[.int .i64 0, .int .i64 1, .int .i64 0, .int .i64 1] 30 ∧ (∀ i : Nat, w'.cell? ⟨w2.heap.size, i, none⟩ = (#[.int .i64 0, .int .i64 1, .int .i64 0, .int .i64 1] : Array Value)[i]?)) ∧ Below Wp.heap.size Wp w')
        (((first | (apply hold1T; (focus assumption); intro p0 pB) | skip); refine ⟨Blk.full ?_, ?_⟩; all_goals (first | ((repeat' (first | (with_reducible assumption) | ((with_reducible refine Blk.new ?_); first | rfl | (simp; done)) | (with_reducible refine Blk.later (by assumption) ?_) | (with_reducible refine Blk.alloc ?_) | (with_reducible refine Blk.drewN ?_) | (with_reducible refine Blk.drew ?_) | (with_reducible refine Blk.other ?_ (by first | omega | (simp; done) | (simp; omega))))); done) | ((repeat' (first | (with_reducible exact Below.refl _ _) | (with_reducible assumption) | (with_reducible refine belowThru ?_ (by assumption)) | (with_reducible refine belowAlloc ?_) | (with_reducible refine Below.setCell ?_ (by first | omega | (simp; done) | (simp; omega)) _) | (with_reducible refine Below.drew ?_) | (with_reducible refine below_drewN ?_ _))); done) | exact Below.refl _ _)))
        (first
        | (go_at_call 23; (with_reducible refine (HF.out _).mono ?_); rintro e w1 ⟨rfl, hb⟩))
      all_goals
        apply hold1T; (focus assumption); intro p0 pB
        go_wp2_with fail
        go_meet
        exact ⟨rfl, pB⟩
    case rest =>
      obtain ⟨rfl, hb⟩ := hcut
      obtain ⟨w13, rfl⟩ : ∃ z, z = wc := ⟨_, rfl⟩
      replace k0 := Blk.later hb k0; clear y0; obtain ⟨a0, b0⟩ := k0.read; have y0 := k0.lt
      replace k1 := Blk.later hb k1; clear y1; obtain ⟨a1, b1⟩ := k1.read; have y1 := k1.lt
      replace k2 := Blk.later hb k2; clear y2; obtain ⟨a2, b2⟩ := k2.read; have y2 := k2.lt
      replace k3 := Blk.later hb k3; clear y3; obtain ⟨a3, b3⟩ := k3.read; have y3 := k3.lt
      replace k4 := Blk.later hb k4; clear y4; obtain ⟨a4, b4⟩ := k4.read; have y4 := k4.lt
      replace hBw : Below w.heap.size w w13 := belowThru hBw hb
      have hzw13 := hBw.size
      clear hb
      go_wp2_with fail
      all_goals
        go_ret
        exact ⟨rfl, by (repeat' first | (with_reducible exact Below.refl _ _) | (with_reducible assumption) | (with_reducible refine belowThru ?_ (by assumption)) | (with_reducible refine belowAlloc ?_))⟩
set_option maxRecDepth 100000 in
set_option maxHeartbeats 16000000 in
theorem true_ct (t nz s1 s2 s3 s4 l1 l2 h1 h2 : Int) (a : Option Addr) (n c : Nat) (zs : List Int) (a2 : Option Addr) (m2 c2 : Nat) (ms : List Int) (w : World) (hR : Row w a n (iv zs)) (hR2 : Row w a2 m2 (hv ms)) (hl : n ≤ 64) (L K : List Int) (B I Kn : Bool) (Z1 Z2 Z3 Z4 T M A1 A2 C1 C2 Y1 Y2 Y3 Y4 Y5 Y6 p1 p2 q1 q2 : Int) (hT : IntKind.i64.wrap (4 * t) = T) (hM : IntKind.i64.wrap ((n : Int) - 1) = M) (hY1 : IntKind.i64.wrap (M * C2) = Y1) (hY2 : IntKind.i64.wrap (Y1 - C1) = Y2) (hY3 : IntKind.i64.wrap (Y2 * A2) = Y3) (hY4 : IntKind.i64.wrap (A1 * C2) = Y4) (hY5 : IntKind.i64.wrap (Y3 - Y4) = Y5) (hY6 : IntKind.i64.wrap (A2 * C2) = Y6) (HM : Hid (∀ w : World, Row w a n (iv zs) → Calls Try.prog 27 #[.agg #[.int .i64 t, .int .i64 nz, .int .i64 s1, .int .i64 s2, .int .i64 s3, .int .i64 s4, .int .i64 l1, .int .i64 l2, .int .i64 h1, .int .i64 h2], .slice a n c] w fun e w' => e = .returned (.tuple #[.agg #[.int .i64 Z1, .int .i64 Z2, .int .i64 Z3, .int .i64 Z4], .int .u8 3, .int .i64 0]) ∧ Below w.heap.size w w')) (HG : Hid (∀ w : World, Calls Try.prog 56 #[.agg #[.int .i64 t, .int .i64 nz, .int .i64 s1, .int .i64 s2, .int .i64 s3, .int .i64 s4, .int .i64 l1, .int .i64 l2, .int .i64 h1, .int .i64 h2]] w fun e w' => e = .returned (.bool true) ∧ Below w.heap.size w w')) (HV : Hid (∀ w : World, Row w a n (iv zs) → Calls Try.prog 51 #[.slice a n c] w fun e w' => e = .returned (.bool true) ∧ Below w.heap.size w w')) (HAL : Hid (∀ w : World, Row w a n (iv zs) → Row w a2 m2 (hv ms) → Calls Try.prog 52 #[.slice a n c, .slice a2 m2 c2, .int .i64 nz] w fun e w' => ∃ v c', e = .returned (.slice v n c') ∧ Row w' v n (iv L) ∧ Below w.heap.size w w')) (HRV : Hid (∀ (v : Option Addr) (c : Nat) (w : World), Row w v n (iv L) → Calls Try.prog 49 #[.slice v n c] w fun e w' => ∃ v' c', e = .returned (.slice v' n c') ∧ Row w' v' n (iv K) ∧ Below w.heap.size w w')) (HA : Hid (∀ (v : Option Addr) (c : Nat) (w : World), Row w v n (iv L) → Calls Try.prog 53 #[.slice v n c, .int .i64 T, .int .i64 0] w fun e w' => e = .returned (.tuple #[.int .i64 A1, .int .i64 A2, .bool true]) ∧ Below w.heap.size w w')) (HC : Hid (∀ (v : Option Addr) (c : Nat) (w : World), Row w v n (iv K) → Calls Try.prog 53 #[.slice v n c, .int .i64 T, .int .i64 0] w fun e w' => e = .returned (.tuple #[.int .i64 C1, .int .i64 C2, .bool B]) ∧ Below w.heap.size w w')) (HMk : Hid (∀ w : World, Calls Try.prog 57 #[.int .i64 Y5, .int .i64 Y6] w fun e w' => e = .returned (.tuple #[.agg #[.int .i64 p1, .int .i64 p2], .int .i64 0]) ∧ Below w.heap.size w w')) (HMu : Hid (∀ w : World, Calls Try.prog 58 #[.agg #[.int .i64 p1, .int .i64 p2], .agg #[.int .i64 s3, .int .i64 s4]] w fun e w' => e = .returned (.tuple #[.agg #[.int .i64 q1, .int .i64 q2], .int .i64 0]) ∧ Below w.heap.size w w')) (HI : Hid (∀ w : World, Calls Try.prog 59 #[.agg #[.int .i64 l1, .int .i64 l2, .int .i64 h1, .int .i64 h2], .agg #[.int .i64 q1, .int .i64 q2]] w fun e w' => e = .returned (.tuple #[.bool I, .int .i64 0]) ∧ Below w.heap.size w w')) (HJ : Hid (∀ w : World, Calls Try.prog 59 #[.agg #[.int .i64 Z1, .int .i64 Z2, .int .i64 Z3, .int .i64 Z4], .agg #[.int .i64 q1, .int .i64 q2]] w fun e w' => e = .returned (.tuple #[.bool true, .int .i64 0]) ∧ Below w.heap.size w w')) :
    Calls Try.prog 13 #[.agg #[.int .i64 t, .int .i64 nz, .int .i64 s1, .int .i64 s2, .int .i64 s3, .int .i64 s4, .int .i64 l1, .int .i64 l2, .int .i64 h1, .int .i64 h2], .slice a n c, .slice a2 m2 c2, .bool true] w fun e w' => e = .returned (.bool true) ∧ Below w.heap.size w w' := by
  have hd : decide (64 < (n : Int)) = false := by simp; omega
  have HF := Lib.hid (frac_lit 0 1 ⟨by kernel_rfl, by kernel_rfl⟩ (by decide))
  have hmx : Try.prog.follows .mixedOrders = true := by kernel_rfl
  have HR := Lib.hid hR
  clear hR
  have HR2 := Lib.hid hR2
  clear hR2
  go_enter Try.func13, Try.ntmps13
  go_wp2_with fail
  refine (alive_true _).mono ?_
  rintro e w1 ⟨rfl, hb⟩
  have kn0 : Blk w1 (w.heap.size) #[.int .i64 t, .int .i64 nz, .int .i64 s1, .int .i64 s2, .int .i64 s3, .int .i64 s4, .int .i64 l1, .int .i64 l2, .int .i64 h1, .int .i64 h2] 41 := Blk.later hb (by (repeat' first | (with_reducible assumption) | ((with_reducible refine Blk.new ?_); first | rfl | (simp; done)) | (with_reducible refine Blk.alloc ?_)))
  have k0 := kn0; clear kn0; obtain ⟨a0, b0⟩ := k0.read; have y0 := k0.lt
  have hBw : Below w.heap.size w w1 := by (repeat' first | (with_reducible exact Below.refl _ _) | (with_reducible assumption) | (with_reducible refine belowThru ?_ (by assumption)) | (with_reducible refine belowAlloc ?_))
  have hzw1 := hBw.size
  clear hb
  go_wp2_with fail
  refine (HM.out _ (HR.out.later (by (repeat' first | (with_reducible exact Below.refl _ _) | (with_reducible assumption) | (with_reducible refine belowThru ?_ (by assumption)) | (with_reducible refine belowAlloc ?_))))).mono ?_
  rintro e w2 ⟨rfl, hb⟩
  have kn0 : Blk w2 (w.heap.size) #[.int .i64 t, .int .i64 nz, .int .i64 s1, .int .i64 s2, .int .i64 s3, .int .i64 s4, .int .i64 l1, .int .i64 l2, .int .i64 h1, .int .i64 h2] 41 := Blk.later hb (by (repeat' first | (with_reducible assumption) | ((with_reducible refine Blk.new ?_); first | rfl | (simp; done)) | (with_reducible refine Blk.alloc ?_)))
  clear k0 a0 b0 y0
  have k0 := kn0; clear kn0; obtain ⟨a0, b0⟩ := k0.read; have y0 := k0.lt
  replace hBw : Below w.heap.size w w2 := belowThru (by (repeat' first | (with_reducible exact Below.refl _ _) | (with_reducible assumption) | (with_reducible refine belowThru ?_ (by assumption)) | (with_reducible refine belowAlloc ?_))) hb
  have hzw2 := hBw.size
  clear hb
  go_wp2_with fail
  refine (HG.out _).mono ?_
  rintro e w3 ⟨rfl, hb⟩
  have kn0 : Blk w3 (w.heap.size) #[.int .i64 t, .int .i64 nz, .int .i64 s1, .int .i64 s2, .int .i64 s3, .int .i64 s4, .int .i64 l1, .int .i64 l2, .int .i64 h1, .int .i64 h2] 41 := Blk.later hb (by (repeat' first | (with_reducible assumption) | ((with_reducible refine Blk.new ?_); first | rfl | (simp; done)) | (with_reducible refine Blk.alloc ?_)))
  have kn1 : Blk w3 (w2.heap.size) #[.int .i64 Z1, .int .i64 Z2, .int .i64 Z3, .int .i64 Z4] 30 := Blk.later hb (by (repeat' first | (with_reducible assumption) | ((with_reducible refine Blk.new ?_); first | rfl | (simp; done)) | (with_reducible refine Blk.alloc ?_)))
  clear k0 a0 b0 y0
  have k0 := kn0; clear kn0; obtain ⟨a0, b0⟩ := k0.read; have y0 := k0.lt
  have k1 := kn1; clear kn1; obtain ⟨a1, b1⟩ := k1.read; have y1 := k1.lt
  replace hBw : Below w.heap.size w w3 := belowThru (by (repeat' first | (with_reducible exact Below.refl _ _) | (with_reducible assumption) | (with_reducible refine belowThru ?_ (by assumption)) | (with_reducible refine belowAlloc ?_))) hb
  have hzw3 := hBw.size
  clear hb
  go_wp2_with fail
  refine (HV.out _ (HR.out.later (by (repeat' first | (with_reducible exact Below.refl _ _) | (with_reducible assumption) | (with_reducible refine belowThru ?_ (by assumption)) | (with_reducible refine belowAlloc ?_))))).mono ?_
  rintro e w4 ⟨rfl, hb⟩
  have kn0 : Blk w4 (w.heap.size) #[.int .i64 t, .int .i64 nz, .int .i64 s1, .int .i64 s2, .int .i64 s3, .int .i64 s4, .int .i64 l1, .int .i64 l2, .int .i64 h1, .int .i64 h2] 41 := Blk.later hb (by (repeat' first | (with_reducible assumption) | ((with_reducible refine Blk.new ?_); first | rfl | (simp; done)) | (with_reducible refine Blk.alloc ?_)))
  have kn1 : Blk w4 (w2.heap.size) #[.int .i64 Z1, .int .i64 Z2, .int .i64 Z3, .int .i64 Z4] 30 := Blk.later hb (by (repeat' first | (with_reducible assumption) | ((with_reducible refine Blk.new ?_); first | rfl | (simp; done)) | (with_reducible refine Blk.alloc ?_)))
  clear k0 a0 b0 y0
  clear k1 a1 b1 y1
  have k0 := kn0; clear kn0; obtain ⟨a0, b0⟩ := k0.read; have y0 := k0.lt
  have k1 := kn1; clear kn1; obtain ⟨a1, b1⟩ := k1.read; have y1 := k1.lt
  replace hBw : Below w.heap.size w w4 := belowThru (by (repeat' first | (with_reducible exact Below.refl _ _) | (with_reducible assumption) | (with_reducible refine belowThru ?_ (by assumption)) | (with_reducible refine belowAlloc ?_))) hb
  have hzw4 := hBw.size
  clear hb
  go_wp2_with fail
  refine (HAL.out _ (HR.out.later (by (repeat' first | (with_reducible exact Below.refl _ _) | (with_reducible assumption) | (with_reducible refine belowThru ?_ (by assumption)) | (with_reducible refine belowAlloc ?_)))) (HR2.out.later (by (repeat' first | (with_reducible exact Below.refl _ _) | (with_reducible assumption) | (with_reducible refine belowThru ?_ (by assumption)) | (with_reducible refine belowAlloc ?_))))).mono ?_
  rintro e w5 ⟨v, c', rfl, hRow, hb⟩
  have HQ := Lib.hid hRow
  clear hRow
  have kn0 : Blk w5 (w.heap.size) #[.int .i64 t, .int .i64 nz, .int .i64 s1, .int .i64 s2, .int .i64 s3, .int .i64 s4, .int .i64 l1, .int .i64 l2, .int .i64 h1, .int .i64 h2] 41 := Blk.later hb (by (repeat' first | (with_reducible assumption) | ((with_reducible refine Blk.new ?_); first | rfl | (simp; done)) | (with_reducible refine Blk.alloc ?_)))
  have kn1 : Blk w5 (w2.heap.size) #[.int .i64 Z1, .int .i64 Z2, .int .i64 Z3, .int .i64 Z4] 30 := Blk.later hb (by (repeat' first | (with_reducible assumption) | ((with_reducible refine Blk.new ?_); first | rfl | (simp; done)) | (with_reducible refine Blk.alloc ?_)))
  clear k0 a0 b0 y0
  clear k1 a1 b1 y1
  have k0 := kn0; clear kn0; obtain ⟨a0, b0⟩ := k0.read; have y0 := k0.lt
  have k1 := kn1; clear kn1; obtain ⟨a1, b1⟩ := k1.read; have y1 := k1.lt
  replace hBw : Below w.heap.size w w5 := belowThru (by (repeat' first | (with_reducible exact Below.refl _ _) | (with_reducible assumption) | (with_reducible refine belowThru ?_ (by assumption)) | (with_reducible refine belowAlloc ?_))) hb
  have hzw5 := hBw.size
  clear hb
  have hb1 : Below w5.heap.size w5 w5 := Below.refl _ _
  go_wp2_with fail
  refine (HA.out _ _ _ (HQ.out.later (by (repeat' first | (with_reducible exact Below.refl _ _) | (with_reducible assumption) | (with_reducible refine belowThru ?_ (by assumption)) | (with_reducible refine belowAlloc ?_))))).mono ?_
  rintro e w6 ⟨rfl, hb⟩
  replace hb1 : Below w5.heap.size w5 w6 := belowThru (by (repeat' first | (with_reducible exact Below.refl _ _) | (with_reducible assumption) | (with_reducible refine belowThru ?_ (by assumption)) | (with_reducible refine belowAlloc ?_))) hb
  have kn0 : Blk w6 (w.heap.size) #[.int .i64 t, .int .i64 nz, .int .i64 s1, .int .i64 s2, .int .i64 s3, .int .i64 s4, .int .i64 l1, .int .i64 l2, .int .i64 h1, .int .i64 h2] 41 := Blk.later hb (by (repeat' first | (with_reducible assumption) | ((with_reducible refine Blk.new ?_); first | rfl | (simp; done)) | (with_reducible refine Blk.alloc ?_)))
  have kn1 : Blk w6 (w2.heap.size) #[.int .i64 Z1, .int .i64 Z2, .int .i64 Z3, .int .i64 Z4] 30 := Blk.later hb (by (repeat' first | (with_reducible assumption) | ((with_reducible refine Blk.new ?_); first | rfl | (simp; done)) | (with_reducible refine Blk.alloc ?_)))
  clear k0 a0 b0 y0
  clear k1 a1 b1 y1
  have k0 := kn0; clear kn0; obtain ⟨a0, b0⟩ := k0.read; have y0 := k0.lt
  have k1 := kn1; clear kn1; obtain ⟨a1, b1⟩ := k1.read; have y1 := k1.lt
  replace hBw : Below w.heap.size w w6 := belowThru (by (repeat' first | (with_reducible exact Below.refl _ _) | (with_reducible assumption) | (with_reducible refine belowThru ?_ (by assumption)) | (with_reducible refine belowAlloc ?_))) hb
  have hzw6 := hBw.size
  clear hb
  go_wp2_with fail
  obtain ⟨Wp, rfl⟩ : ∃ Wp, Wp = w6 := ⟨_, rfl⟩
  clear a0 b0 y0; have y0 := k0.lt
  clear a1 b1 y1; have y1 := k1.lt
  refine wp_region_held_drew (S := fun w' => (Blk w' (w.heap.size) #[.int .i64 t, .int .i64 nz, .int .i64 s1, .int .i64 s2, .int .i64 s3, .int .i64 s4, .int .i64 l1, .int .i64 l2, .int .i64 h1, .int .i64 h2] 41 ∧ (∀ i : Nat, w'.cell? ⟨w.heap.size, i, none⟩ = (#[.int .i64 t, .int .i64 nz, .int .i64 s1, .int .i64 s2, .int .i64 s3, .int .i64 s4, .int .i64 l1, .int .i64 l2, .int .i64 h1, .int .i64 h2] : Array Value)[i]?)) ∧ Below w.heap.size w w') hmx ⟨k0.drew.full, hBw.drew⟩ (fun hHeld => ?_)
  obtain ⟨Wd, hWd⟩ : ∃ Wd, Wp.drew = Wd := ⟨_, rfl⟩
  have q0 : Blk Wd (w.heap.size) #[.int .i64 t, .int .i64 nz, .int .i64 s1, .int .i64 s2, .int .i64 s3, .int .i64 s4, .int .i64 l1, .int .i64 l2, .int .i64 h1, .int .i64 h2] 41 := by rw [← hWd]; exact k0.drew
  have q1 : Blk Wd (w2.heap.size) #[.int .i64 Z1, .int .i64 Z2, .int .i64 Z3, .int .i64 Z4] 30 := by rw [← hWd]; exact k1.drew
  have hBd : Below w.heap.size w Wd := by rw [← hWd]; exact hBw.drew
  have hb1d : Below w5.heap.size w5 Wd := by rw [← hWd]; exact hb1.drew
  rw [hWd] at hHeld ⊢
  clear hWd k0 k1 y0 y1 hBw hb1
  refine wpAnyH_take (i := 0) (v := ?_) rfl (by kernel_rfl) (by kernel_rfl) (by kernel_rfl) (fun _ _ _ h => h) (Or.inl ⟨by rfl, ?hT16⟩) (by assumption) ?_
  case hT16 => ((intro w hSw; (try dsimp only at hSw); go_simp); try (with_reducible rfl))
  try simp only [Act.put, List.setIfInBounds_toArray, List.set_cons_zero, List.set_cons_succ]
  refine wpAnyH_take (i := 2) (v := ?_) rfl (by kernel_rfl) (by kernel_rfl) (by kernel_rfl) (fun _ _ _ h => h) (Or.inl ⟨by rfl, ?hT17⟩) (by assumption) ?_
  case hT17 => ((intro w hSw; (try dsimp only at hSw); go_simp); try (with_reducible rfl))
  try simp only [Act.put, List.setIfInBounds_toArray, List.set_cons_zero, List.set_cons_succ]
  refine wpAnyH_take (i := 3) (v := ?_) rfl (by kernel_rfl) (by kernel_rfl) (by kernel_rfl) (fun _ _ _ h => h) (Or.inl ⟨by rfl, ?hT18⟩) (by assumption) ?_
  case hT18 => ((intro w hSw; (try dsimp only at hSw); go_simp); try (with_reducible rfl))
  try simp only [Act.put, List.setIfInBounds_toArray, List.set_cons_zero, List.set_cons_succ]
  refine wpAnyH_take (i := 4) (v := ?_) rfl (by kernel_rfl) (by kernel_rfl) (by kernel_rfl) (fun _ _ _ h => h) (Or.inl ⟨by rfl, ?hT19⟩) (by assumption) ?_
  case hT19 => ((intro w hSw; (try dsimp only at hSw); go_simp); try (with_reducible rfl))
  try simp only [Act.put, List.setIfInBounds_toArray, List.set_cons_zero, List.set_cons_succ]
  refine wpAnyH_ready (rs := [1]) (by kernel_rfl) (by simp) ?_
  refine AllReadyH.cons rfl (fun K hK => ?_) AllReadyH.nil
  go_simp
  refine (HRV.out _ _ _ (HQ.out.later hb1d)).mono ?_
  rintro e w7 ⟨v', c'', rfl, hRow, hb⟩
  have HB := Lib.hid hRow
  clear hRow
  have k0 := Blk.later hb q0; have k1 := Blk.later hb q1; have hBw : Below w.heap.size w w7 := belowThru hBd hb
  clear q0 q1 hBd hb1d hb
  try go_simp
  refine hK.out _ _ ?_ (fun hHeldN => ?_)
  · (try dsimp only); exact ⟨k0.full, hBw⟩
  clear hK K hHeld
  have hHeld := hHeldN
  clear hHeldN
  try simp only [Act.put, List.setIfInBounds_toArray, List.set_cons_zero, List.set_cons_succ]
  refine wpAnyH_ready (rs := [5]) (by kernel_rfl) (by simp) ?_
  refine AllReadyH.cons rfl (fun K hK => ?_) AllReadyH.nil
  go_simp
  refine (HC.out _ _ _ HB.out).mono ?_
  rintro e w8 ⟨rfl, hb⟩
  replace k0 := Blk.later hb k0; replace k1 := Blk.later hb k1; replace hBw : Below w.heap.size w w8 := belowThru hBw hb
  clear hb
  try go_simp
  refine hK.out _ _ ?_ (fun hHeldN => ?_)
  · (try dsimp only); exact ⟨k0.full, hBw⟩
  clear hK K hHeld
  have hHeld := hHeldN
  clear hHeldN
  try simp only [Act.put, List.setIfInBounds_toArray, List.set_cons_zero, List.set_cons_succ]
  refine wpAnyH_take (i := 6) (v := ?_) rfl (by kernel_rfl) (by kernel_rfl) (by kernel_rfl) (fun _ _ _ h => h) (Or.inl ⟨by rfl, ?hT20⟩) (by assumption) ?_
  case hT20 => ((intro w hSw; (try dsimp only at hSw); go_simp); try (with_reducible rfl))
  try simp only [Act.put, List.setIfInBounds_toArray, List.set_cons_zero, List.set_cons_succ]
  refine wpAnyH_take (i := 7) (v := ?_) rfl (by kernel_rfl) (by kernel_rfl) (by kernel_rfl) (fun _ _ _ h => h) (Or.inl ⟨by rfl, ?hT21⟩) (by assumption) ?_
  case hT21 => ((intro w hSw; (try dsimp only at hSw); go_simp); try (with_reducible rfl))
  try simp only [Act.put, List.setIfInBounds_toArray, List.set_cons_zero, List.set_cons_succ]
  refine wpAnyH_take (i := 8) (v := ?_) rfl (by kernel_rfl) (by kernel_rfl) (by kernel_rfl) (fun _ _ _ h => h) (Or.inl ⟨by rfl, ?hT22⟩) (by assumption) ?_
  case hT22 => ((intro w hSw; (try dsimp only at hSw); go_simp); try (with_reducible rfl))
  try simp only [Act.put, List.setIfInBounds_toArray, List.set_cons_zero, List.set_cons_succ]
  refine wpAnyH_take (i := 9) (v := ?_) rfl (by kernel_rfl) (by kernel_rfl) (by kernel_rfl) (fun _ _ _ h => h) (Or.inl ⟨by rfl, ?hT23⟩) (by assumption) ?_
  case hT23 => ((intro w hSw; (try dsimp only at hSw); go_simp); try (with_reducible rfl))
  try simp only [Act.put, List.setIfInBounds_toArray, List.set_cons_zero, List.set_cons_succ]
  refine wpAnyH_ready (rs := [10]) (by kernel_rfl) (by simp) ?_
  refine AllReadyH.cons rfl (fun K hK => ?_) AllReadyH.nil
  go_simp
  refine hK.out _ _ ?_ (fun hHeldN => ?_)
  · (try dsimp only); exact ⟨k0.full, hBw⟩
  clear hK K hHeld
  have hHeld := hHeldN
  clear hHeldN
  try simp only [Act.put, List.setIfInBounds_toArray, List.set_cons_zero, List.set_cons_succ]
  refine wpAnyH_ready (rs := [11]) (by kernel_rfl) (by simp) ?_
  refine AllReadyH.cons rfl (fun K hK => ?_) AllReadyH.nil
  go_simp
  refine hK.out _ _ ?_ (fun hHeldN => ?_)
  · (try dsimp only); exact ⟨k0.full, hBw⟩
  clear hK K hHeld
  have hHeld := hHeldN
  clear hHeldN
  try simp only [Act.put, List.setIfInBounds_toArray, List.set_cons_zero, List.set_cons_succ]
  refine wpAnyH_ready (rs := [12]) (by kernel_rfl) (by simp) ?_
  refine AllReadyH.cons rfl (fun K hK => ?_) AllReadyH.nil
  go_simp
  refine hK.out _ _ ?_ (fun hHeldN => ?_)
  · (try dsimp only); exact ⟨k0.full, hBw⟩
  clear hK K hHeld
  have hHeld := hHeldN
  clear hHeldN
  try simp only [Act.put, List.setIfInBounds_toArray, List.set_cons_zero, List.set_cons_succ]
  refine wpAnyH_done (by kernel_rfl) ?_ _
  obtain ⟨a0, b0⟩ := k0.read; have y0 := k0.lt
  obtain ⟨a1, b1⟩ := k1.read; have y1 := k1.lt
  have hzw8 := hBw.size
  go_wp2_with fail
  refine (HMk.out _).mono ?_
  rintro e w9 ⟨rfl, hb⟩
  have kn0 : Blk w9 (w.heap.size) #[.int .i64 t, .int .i64 nz, .int .i64 s1, .int .i64 s2, .int .i64 s3, .int .i64 s4, .int .i64 l1, .int .i64 l2, .int .i64 h1, .int .i64 h2] 41 := Blk.later hb (by (repeat' first | (with_reducible assumption) | ((with_reducible refine Blk.new ?_); first | rfl | (simp; done)) | (with_reducible refine Blk.alloc ?_)))
  have kn1 : Blk w9 (w2.heap.size) #[.int .i64 Z1, .int .i64 Z2, .int .i64 Z3, .int .i64 Z4] 30 := Blk.later hb (by (repeat' first | (with_reducible assumption) | ((with_reducible refine Blk.new ?_); first | rfl | (simp; done)) | (with_reducible refine Blk.alloc ?_)))
  have kn2 : Blk w9 (w8.heap.size) #[.int .i64 s3, .int .i64 s4] 23 := Blk.later hb (by (repeat' first | (with_reducible assumption) | ((with_reducible refine Blk.new ?_); first | rfl | (simp; done)) | (with_reducible refine Blk.alloc ?_)))
  clear k0 a0 b0 y0
  clear k1 a1 b1 y1
  have k0 := kn0; clear kn0; obtain ⟨a0, b0⟩ := k0.read; have y0 := k0.lt
  have k1 := kn1; clear kn1; obtain ⟨a1, b1⟩ := k1.read; have y1 := k1.lt
  have k2 := kn2; clear kn2; obtain ⟨a2, b2⟩ := k2.read; have y2 := k2.lt
  replace hBw : Below w.heap.size w w9 := belowThru (by (repeat' first | (with_reducible exact Below.refl _ _) | (with_reducible assumption) | (with_reducible refine belowThru ?_ (by assumption)) | (with_reducible refine belowAlloc ?_))) hb
  have hzw9 := hBw.size
  clear hb
  go_wp2_with fail
  refine (HMu.out _).mono ?_
  rintro e w10 ⟨rfl, hb⟩
  have kn0 : Blk w10 (w.heap.size) #[.int .i64 t, .int .i64 nz, .int .i64 s1, .int .i64 s2, .int .i64 s3, .int .i64 s4, .int .i64 l1, .int .i64 l2, .int .i64 h1, .int .i64 h2] 41 := Blk.later hb (by (repeat' first | (with_reducible assumption) | ((with_reducible refine Blk.new ?_); first | rfl | (simp; done)) | (with_reducible refine Blk.alloc ?_)))
  have kn1 : Blk w10 (w2.heap.size) #[.int .i64 Z1, .int .i64 Z2, .int .i64 Z3, .int .i64 Z4] 30 := Blk.later hb (by (repeat' first | (with_reducible assumption) | ((with_reducible refine Blk.new ?_); first | rfl | (simp; done)) | (with_reducible refine Blk.alloc ?_)))
  have kn2 : Blk w10 (w8.heap.size) #[.int .i64 s3, .int .i64 s4] 23 := Blk.later hb (by (repeat' first | (with_reducible assumption) | ((with_reducible refine Blk.new ?_); first | rfl | (simp; done)) | (with_reducible refine Blk.alloc ?_)))
  have kn3 : Blk w10 (w9.heap.size) #[.int .i64 p1, .int .i64 p2] 23 := Blk.later hb (by (repeat' first | (with_reducible assumption) | ((with_reducible refine Blk.new ?_); first | rfl | (simp; done)) | (with_reducible refine Blk.alloc ?_)))
  clear k0 a0 b0 y0
  clear k1 a1 b1 y1
  clear k2 a2 b2 y2
  have k0 := kn0; clear kn0; obtain ⟨a0, b0⟩ := k0.read; have y0 := k0.lt
  have k1 := kn1; clear kn1; obtain ⟨a1, b1⟩ := k1.read; have y1 := k1.lt
  have k2 := kn2; clear kn2; obtain ⟨a2, b2⟩ := k2.read; have y2 := k2.lt
  have k3 := kn3; clear kn3; obtain ⟨a3, b3⟩ := k3.read; have y3 := k3.lt
  replace hBw : Below w.heap.size w w10 := belowThru (by (repeat' first | (with_reducible exact Below.refl _ _) | (with_reducible assumption) | (with_reducible refine belowThru ?_ (by assumption)) | (with_reducible refine belowAlloc ?_))) hb
  have hzw10 := hBw.size
  clear hb
  go_wp2_with fail
  refine (HI.out _).mono ?_
  rintro e w11 ⟨rfl, hb⟩
  have kn0 : Blk w11 (w.heap.size) #[.int .i64 t, .int .i64 nz, .int .i64 s1, .int .i64 s2, .int .i64 s3, .int .i64 s4, .int .i64 l1, .int .i64 l2, .int .i64 h1, .int .i64 h2] 41 := Blk.later hb (by (repeat' first | (with_reducible assumption) | ((with_reducible refine Blk.new ?_); first | rfl | (simp; done)) | (with_reducible refine Blk.alloc ?_)))
  have kn1 : Blk w11 (w2.heap.size) #[.int .i64 Z1, .int .i64 Z2, .int .i64 Z3, .int .i64 Z4] 30 := Blk.later hb (by (repeat' first | (with_reducible assumption) | ((with_reducible refine Blk.new ?_); first | rfl | (simp; done)) | (with_reducible refine Blk.alloc ?_)))
  have kn2 : Blk w11 (w8.heap.size) #[.int .i64 s3, .int .i64 s4] 23 := Blk.later hb (by (repeat' first | (with_reducible assumption) | ((with_reducible refine Blk.new ?_); first | rfl | (simp; done)) | (with_reducible refine Blk.alloc ?_)))
  have kn3 : Blk w11 (w9.heap.size) #[.int .i64 p1, .int .i64 p2] 23 := Blk.later hb (by (repeat' first | (with_reducible assumption) | ((with_reducible refine Blk.new ?_); first | rfl | (simp; done)) | (with_reducible refine Blk.alloc ?_)))
  have kn4 : Blk w11 (w10.heap.size) #[.int .i64 q1, .int .i64 q2] 23 := Blk.later hb (by (repeat' first | (with_reducible assumption) | ((with_reducible refine Blk.new ?_); first | rfl | (simp; done)) | (with_reducible refine Blk.alloc ?_)))
  clear k0 a0 b0 y0
  clear k1 a1 b1 y1
  clear k2 a2 b2 y2
  clear k3 a3 b3 y3
  have k0 := kn0; clear kn0; obtain ⟨a0, b0⟩ := k0.read; have y0 := k0.lt
  have k1 := kn1; clear kn1; obtain ⟨a1, b1⟩ := k1.read; have y1 := k1.lt
  have k2 := kn2; clear kn2; obtain ⟨a2, b2⟩ := k2.read; have y2 := k2.lt
  have k3 := kn3; clear kn3; obtain ⟨a3, b3⟩ := k3.read; have y3 := k3.lt
  have k4 := kn4; clear kn4; obtain ⟨a4, b4⟩ := k4.read; have y4 := k4.lt
  replace hBw : Below w.heap.size w w11 := belowThru (by (repeat' first | (with_reducible exact Below.refl _ _) | (with_reducible assumption) | (with_reducible refine belowThru ?_ (by assumption)) | (with_reducible refine belowAlloc ?_))) hb
  have hzw11 := hBw.size
  clear hb
  go_wp2_with fail
  refine (HJ.out _).mono ?_
  rintro e w12 ⟨rfl, hb⟩
  have kn0 : Blk w12 (w.heap.size) #[.int .i64 t, .int .i64 nz, .int .i64 s1, .int .i64 s2, .int .i64 s3, .int .i64 s4, .int .i64 l1, .int .i64 l2, .int .i64 h1, .int .i64 h2] 41 := Blk.later hb (by (repeat' first | (with_reducible assumption) | ((with_reducible refine Blk.new ?_); first | rfl | (simp; done)) | (with_reducible refine Blk.alloc ?_)))
  have kn1 : Blk w12 (w2.heap.size) #[.int .i64 Z1, .int .i64 Z2, .int .i64 Z3, .int .i64 Z4] 30 := Blk.later hb (by (repeat' first | (with_reducible assumption) | ((with_reducible refine Blk.new ?_); first | rfl | (simp; done)) | (with_reducible refine Blk.alloc ?_)))
  have kn2 : Blk w12 (w8.heap.size) #[.int .i64 s3, .int .i64 s4] 23 := Blk.later hb (by (repeat' first | (with_reducible assumption) | ((with_reducible refine Blk.new ?_); first | rfl | (simp; done)) | (with_reducible refine Blk.alloc ?_)))
  have kn3 : Blk w12 (w9.heap.size) #[.int .i64 p1, .int .i64 p2] 23 := Blk.later hb (by (repeat' first | (with_reducible assumption) | ((with_reducible refine Blk.new ?_); first | rfl | (simp; done)) | (with_reducible refine Blk.alloc ?_)))
  have kn4 : Blk w12 (w10.heap.size) #[.int .i64 q1, .int .i64 q2] 23 := Blk.later hb (by (repeat' first | (with_reducible assumption) | ((with_reducible refine Blk.new ?_); first | rfl | (simp; done)) | (with_reducible refine Blk.alloc ?_)))
  clear k0 a0 b0 y0
  clear k1 a1 b1 y1
  clear k2 a2 b2 y2
  clear k3 a3 b3 y3
  clear k4 a4 b4 y4
  have k0 := kn0; clear kn0; obtain ⟨a0, b0⟩ := k0.read; have y0 := k0.lt
  have k1 := kn1; clear kn1; obtain ⟨a1, b1⟩ := k1.read; have y1 := k1.lt
  have k2 := kn2; clear kn2; obtain ⟨a2, b2⟩ := k2.read; have y2 := k2.lt
  have k3 := kn3; clear kn3; obtain ⟨a3, b3⟩ := k3.read; have y3 := k3.lt
  have k4 := kn4; clear kn4; obtain ⟨a4, b4⟩ := k4.read; have y4 := k4.lt
  replace hBw : Below w.heap.size w w12 := belowThru (by (repeat' first | (with_reducible exact Below.refl _ _) | (with_reducible assumption) | (with_reducible refine belowThru ?_ (by assumption)) | (with_reducible refine belowAlloc ?_))) hb
  have hzw12 := hBw.size
  clear hb
  rcases zcases Z1 Z2 Z3 Z4 with hz | ⟨rfl, hz⟩ | ⟨rfl, rfl, hz⟩ | ⟨rfl, rfl, rfl, hz⟩ | ⟨rfl, rfl, rfl, rfl⟩
  · have hz1 : (Z1 == 0) = false := by simpa using hz
    have hz2 : decide (Z1 = 0) = false := by simpa using hz
    go_wp2_with fail
    obtain ⟨Wp, rfl⟩ : ∃ Wp, Wp = w12 := ⟨_, rfl⟩
    clear a0 b0 y0; have y0 := k0.lt
    clear a1 b1 y1; have y1 := k1.lt
    clear a2 b2 y2; have y2 := k2.lt
    clear a3 b3 y3; have y3 := k3.lt
    clear a4 b4 y4; have y4 := k4.lt
    go_cut [30] (fun s30 wx => s30 = .bool false ∧ Below Wp.heap.size Wp wx)
    case first =>
      go_region_held3 (fun w' => (Blk w' (w2.heap.size) #[.int .i64 Z1, .int .i64 Z2, .int .i64 Z3, .int .i64 Z4] 30 ∧ (∀ i : Nat, w'.cell? ⟨w2.heap.size, i, none⟩ = (#[.int .i64 Z1, .int .i64 Z2, .int .i64 Z3, .int .i64 Z4] : Array Value)[i]?)) ∧ Below Wp.heap.size Wp w')
        (((first | (apply hold1T; (focus assumption); intro p0 pB) | skip); refine ⟨Blk.full ?_, ?_⟩; all_goals (first | ((repeat' (first | (with_reducible assumption) | ((with_reducible refine Blk.new ?_); first | rfl | (simp; done)) | (with_reducible refine Blk.later (by assumption) ?_) | (with_reducible refine Blk.alloc ?_) | (with_reducible refine Blk.drewN ?_) | (with_reducible refine Blk.drew ?_) | (with_reducible refine Blk.other ?_ (by first | omega | (simp; done) | (simp; omega))))); done) | ((repeat' (first | (with_reducible exact Below.refl _ _) | (with_reducible assumption) | (with_reducible refine belowThru ?_ (by assumption)) | (with_reducible refine belowAlloc ?_) | (with_reducible refine Below.setCell ?_ (by first | omega | (simp; done) | (simp; omega)) _) | (with_reducible refine Below.drew ?_) | (with_reducible refine below_drewN ?_ _))); done) | exact Below.refl _ _)))
        (first
        | (go_at_call 23; (with_reducible refine (HF.out _).mono ?_); rintro e w1 ⟨rfl, hb⟩))
      all_goals
        apply hold1T; (focus assumption); intro p0 pB
        go_wp2_with fail
        go_meet
        exact ⟨rfl, pB⟩
    case rest =>
      obtain ⟨rfl, hb⟩ := hcut
      obtain ⟨w13, rfl⟩ : ∃ z, z = wc := ⟨_, rfl⟩
      replace k0 := Blk.later hb k0; clear y0; obtain ⟨a0, b0⟩ := k0.read; have y0 := k0.lt
      replace k1 := Blk.later hb k1; clear y1; obtain ⟨a1, b1⟩ := k1.read; have y1 := k1.lt
      replace k2 := Blk.later hb k2; clear y2; obtain ⟨a2, b2⟩ := k2.read; have y2 := k2.lt
      replace k3 := Blk.later hb k3; clear y3; obtain ⟨a3, b3⟩ := k3.read; have y3 := k3.lt
      replace k4 := Blk.later hb k4; clear y4; obtain ⟨a4, b4⟩ := k4.read; have y4 := k4.lt
      replace hBw : Below w.heap.size w w13 := belowThru hBw hb
      have hzw13 := hBw.size
      clear hb
      go_wp2_with fail
      all_goals
        go_ret
        exact ⟨rfl, by (repeat' first | (with_reducible exact Below.refl _ _) | (with_reducible assumption) | (with_reducible refine belowThru ?_ (by assumption)) | (with_reducible refine belowAlloc ?_))⟩
  · have hz1 : (Z2 == 1) = false := by simpa using hz
    have hz2 : decide (Z2 = 1) = false := by simpa using hz
    go_wp2_with fail
    obtain ⟨Wp, rfl⟩ : ∃ Wp, Wp = w12 := ⟨_, rfl⟩
    clear a0 b0 y0; have y0 := k0.lt
    clear a1 b1 y1; have y1 := k1.lt
    clear a2 b2 y2; have y2 := k2.lt
    clear a3 b3 y3; have y3 := k3.lt
    clear a4 b4 y4; have y4 := k4.lt
    go_cut [30] (fun s30 wx => s30 = .bool false ∧ Below Wp.heap.size Wp wx)
    case first =>
      go_region_held3 (fun w' => (Blk w' (w2.heap.size) #[.int .i64 0, .int .i64 Z2, .int .i64 Z3, .int .i64 Z4] 30 ∧ (∀ i : Nat, w'.cell? ⟨w2.heap.size, i, none⟩ = (#[.int .i64 0, .int .i64 Z2, .int .i64 Z3, .int .i64 Z4] : Array Value)[i]?)) ∧ Below Wp.heap.size Wp w')
        (((first | (apply hold1T; (focus assumption); intro p0 pB) | skip); refine ⟨Blk.full ?_, ?_⟩; all_goals (first | ((repeat' (first | (with_reducible assumption) | ((with_reducible refine Blk.new ?_); first | rfl | (simp; done)) | (with_reducible refine Blk.later (by assumption) ?_) | (with_reducible refine Blk.alloc ?_) | (with_reducible refine Blk.drewN ?_) | (with_reducible refine Blk.drew ?_) | (with_reducible refine Blk.other ?_ (by first | omega | (simp; done) | (simp; omega))))); done) | ((repeat' (first | (with_reducible exact Below.refl _ _) | (with_reducible assumption) | (with_reducible refine belowThru ?_ (by assumption)) | (with_reducible refine belowAlloc ?_) | (with_reducible refine Below.setCell ?_ (by first | omega | (simp; done) | (simp; omega)) _) | (with_reducible refine Below.drew ?_) | (with_reducible refine below_drewN ?_ _))); done) | exact Below.refl _ _)))
        (first
        | (go_at_call 23; (with_reducible refine (HF.out _).mono ?_); rintro e w1 ⟨rfl, hb⟩))
      all_goals
        apply hold1T; (focus assumption); intro p0 pB
        go_wp2_with fail
        go_meet
        exact ⟨rfl, pB⟩
    case rest =>
      obtain ⟨rfl, hb⟩ := hcut
      obtain ⟨w13, rfl⟩ : ∃ z, z = wc := ⟨_, rfl⟩
      replace k0 := Blk.later hb k0; clear y0; obtain ⟨a0, b0⟩ := k0.read; have y0 := k0.lt
      replace k1 := Blk.later hb k1; clear y1; obtain ⟨a1, b1⟩ := k1.read; have y1 := k1.lt
      replace k2 := Blk.later hb k2; clear y2; obtain ⟨a2, b2⟩ := k2.read; have y2 := k2.lt
      replace k3 := Blk.later hb k3; clear y3; obtain ⟨a3, b3⟩ := k3.read; have y3 := k3.lt
      replace k4 := Blk.later hb k4; clear y4; obtain ⟨a4, b4⟩ := k4.read; have y4 := k4.lt
      replace hBw : Below w.heap.size w w13 := belowThru hBw hb
      have hzw13 := hBw.size
      clear hb
      go_wp2_with fail
      all_goals
        go_ret
        exact ⟨rfl, by (repeat' first | (with_reducible exact Below.refl _ _) | (with_reducible assumption) | (with_reducible refine belowThru ?_ (by assumption)) | (with_reducible refine belowAlloc ?_))⟩
  · have hz1 : (Z3 == 0) = false := by simpa using hz
    have hz2 : decide (Z3 = 0) = false := by simpa using hz
    go_wp2_with fail
    obtain ⟨Wp, rfl⟩ : ∃ Wp, Wp = w12 := ⟨_, rfl⟩
    clear a0 b0 y0; have y0 := k0.lt
    clear a1 b1 y1; have y1 := k1.lt
    clear a2 b2 y2; have y2 := k2.lt
    clear a3 b3 y3; have y3 := k3.lt
    clear a4 b4 y4; have y4 := k4.lt
    go_cut [30] (fun s30 wx => s30 = .bool false ∧ Below Wp.heap.size Wp wx)
    case first =>
      go_region_held3 (fun w' => (Blk w' (w2.heap.size) #[.int .i64 0, .int .i64 1, .int .i64 Z3, .int .i64 Z4] 30 ∧ (∀ i : Nat, w'.cell? ⟨w2.heap.size, i, none⟩ = (#[.int .i64 0, .int .i64 1, .int .i64 Z3, .int .i64 Z4] : Array Value)[i]?)) ∧ Below Wp.heap.size Wp w')
        (((first | (apply hold1T; (focus assumption); intro p0 pB) | skip); refine ⟨Blk.full ?_, ?_⟩; all_goals (first | ((repeat' (first | (with_reducible assumption) | ((with_reducible refine Blk.new ?_); first | rfl | (simp; done)) | (with_reducible refine Blk.later (by assumption) ?_) | (with_reducible refine Blk.alloc ?_) | (with_reducible refine Blk.drewN ?_) | (with_reducible refine Blk.drew ?_) | (with_reducible refine Blk.other ?_ (by first | omega | (simp; done) | (simp; omega))))); done) | ((repeat' (first | (with_reducible exact Below.refl _ _) | (with_reducible assumption) | (with_reducible refine belowThru ?_ (by assumption)) | (with_reducible refine belowAlloc ?_) | (with_reducible refine Below.setCell ?_ (by first | omega | (simp; done) | (simp; omega)) _) | (with_reducible refine Below.drew ?_) | (with_reducible refine below_drewN ?_ _))); done) | exact Below.refl _ _)))
        (first
        | (go_at_call 23; (with_reducible refine (HF.out _).mono ?_); rintro e w1 ⟨rfl, hb⟩))
      all_goals
        apply hold1T; (focus assumption); intro p0 pB
        go_wp2_with fail
        go_meet
        exact ⟨rfl, pB⟩
    case rest =>
      obtain ⟨rfl, hb⟩ := hcut
      obtain ⟨w13, rfl⟩ : ∃ z, z = wc := ⟨_, rfl⟩
      replace k0 := Blk.later hb k0; clear y0; obtain ⟨a0, b0⟩ := k0.read; have y0 := k0.lt
      replace k1 := Blk.later hb k1; clear y1; obtain ⟨a1, b1⟩ := k1.read; have y1 := k1.lt
      replace k2 := Blk.later hb k2; clear y2; obtain ⟨a2, b2⟩ := k2.read; have y2 := k2.lt
      replace k3 := Blk.later hb k3; clear y3; obtain ⟨a3, b3⟩ := k3.read; have y3 := k3.lt
      replace k4 := Blk.later hb k4; clear y4; obtain ⟨a4, b4⟩ := k4.read; have y4 := k4.lt
      replace hBw : Below w.heap.size w w13 := belowThru hBw hb
      have hzw13 := hBw.size
      clear hb
      go_wp2_with fail
      all_goals
        go_ret
        exact ⟨rfl, by (repeat' first | (with_reducible exact Below.refl _ _) | (with_reducible assumption) | (with_reducible refine belowThru ?_ (by assumption)) | (with_reducible refine belowAlloc ?_))⟩
  · have hz1 : (Z4 == 1) = false := by simpa using hz
    have hz2 : decide (Z4 = 1) = false := by simpa using hz
    go_wp2_with fail
    obtain ⟨Wp, rfl⟩ : ∃ Wp, Wp = w12 := ⟨_, rfl⟩
    clear a0 b0 y0; have y0 := k0.lt
    clear a1 b1 y1; have y1 := k1.lt
    clear a2 b2 y2; have y2 := k2.lt
    clear a3 b3 y3; have y3 := k3.lt
    clear a4 b4 y4; have y4 := k4.lt
    go_cut [30] (fun s30 wx => s30 = .bool false ∧ Below Wp.heap.size Wp wx)
    case first =>
      go_region_held3 (fun w' => (Blk w' (w2.heap.size) #[.int .i64 0, .int .i64 1, .int .i64 0, .int .i64 Z4] 30 ∧ (∀ i : Nat, w'.cell? ⟨w2.heap.size, i, none⟩ = (#[.int .i64 0, .int .i64 1, .int .i64 0, .int .i64 Z4] : Array Value)[i]?)) ∧ Below Wp.heap.size Wp w')
        (((first | (apply hold1T; (focus assumption); intro p0 pB) | skip); refine ⟨Blk.full ?_, ?_⟩; all_goals (first | ((repeat' (first | (with_reducible assumption) | ((with_reducible refine Blk.new ?_); first | rfl | (simp; done)) | (with_reducible refine Blk.later (by assumption) ?_) | (with_reducible refine Blk.alloc ?_) | (with_reducible refine Blk.drewN ?_) | (with_reducible refine Blk.drew ?_) | (with_reducible refine Blk.other ?_ (by first | omega | (simp; done) | (simp; omega))))); done) | ((repeat' (first | (with_reducible exact Below.refl _ _) | (with_reducible assumption) | (with_reducible refine belowThru ?_ (by assumption)) | (with_reducible refine belowAlloc ?_) | (with_reducible refine Below.setCell ?_ (by first | omega | (simp; done) | (simp; omega)) _) | (with_reducible refine Below.drew ?_) | (with_reducible refine below_drewN ?_ _))); done) | exact Below.refl _ _)))
        (first
        | (go_at_call 23; (with_reducible refine (HF.out _).mono ?_); rintro e w1 ⟨rfl, hb⟩))
      all_goals
        apply hold1T; (focus assumption); intro p0 pB
        go_wp2_with fail
        go_meet
        exact ⟨rfl, pB⟩
    case rest =>
      obtain ⟨rfl, hb⟩ := hcut
      obtain ⟨w13, rfl⟩ : ∃ z, z = wc := ⟨_, rfl⟩
      replace k0 := Blk.later hb k0; clear y0; obtain ⟨a0, b0⟩ := k0.read; have y0 := k0.lt
      replace k1 := Blk.later hb k1; clear y1; obtain ⟨a1, b1⟩ := k1.read; have y1 := k1.lt
      replace k2 := Blk.later hb k2; clear y2; obtain ⟨a2, b2⟩ := k2.read; have y2 := k2.lt
      replace k3 := Blk.later hb k3; clear y3; obtain ⟨a3, b3⟩ := k3.read; have y3 := k3.lt
      replace k4 := Blk.later hb k4; clear y4; obtain ⟨a4, b4⟩ := k4.read; have y4 := k4.lt
      replace hBw : Below w.heap.size w w13 := belowThru hBw hb
      have hzw13 := hBw.size
      clear hb
      go_wp2_with fail
      all_goals
        go_ret
        exact ⟨rfl, by (repeat' first | (with_reducible exact Below.refl _ _) | (with_reducible assumption) | (with_reducible refine belowThru ?_ (by assumption)) | (with_reducible refine belowAlloc ?_))⟩
  · go_wp2_with fail
    obtain ⟨Wp, rfl⟩ : ∃ Wp, Wp = w12 := ⟨_, rfl⟩
    clear a0 b0 y0; have y0 := k0.lt
    clear a1 b1 y1; have y1 := k1.lt
    clear a2 b2 y2; have y2 := k2.lt
    clear a3 b3 y3; have y3 := k3.lt
    clear a4 b4 y4; have y4 := k4.lt
    go_cut [30] (fun s30 wx => s30 = .bool true ∧ Below Wp.heap.size Wp wx)
    case first =>
      go_region_held3 (fun w' => (Blk w' (w2.heap.size) #[.int .i64 0, .int .i64 1, .int .i64 0, .int .i64 1] 30 ∧ (∀ i : Nat, w'.cell? ⟨w2.heap.size, i, none⟩ = (#[.int .i64 0, .int .i64 1, .int .i64 0, .int .i64 1] : Array Value)[i]?)) ∧ Below Wp.heap.size Wp w')
        (((first | (apply hold1T; (focus assumption); intro p0 pB) | skip); refine ⟨Blk.full ?_, ?_⟩; all_goals (first | ((repeat' (first | (with_reducible assumption) | ((with_reducible refine Blk.new ?_); first | rfl | (simp; done)) | (with_reducible refine Blk.later (by assumption) ?_) | (with_reducible refine Blk.alloc ?_) | (with_reducible refine Blk.drewN ?_) | (with_reducible refine Blk.drew ?_) | (with_reducible refine Blk.other ?_ (by first | omega | (simp; done) | (simp; omega))))); done) | ((repeat' (first | (with_reducible exact Below.refl _ _) | (with_reducible assumption) | (with_reducible refine belowThru ?_ (by assumption)) | (with_reducible refine belowAlloc ?_) | (with_reducible refine Below.setCell ?_ (by first | omega | (simp; done) | (simp; omega)) _) | (with_reducible refine Below.drew ?_) | (with_reducible refine below_drewN ?_ _))); done) | exact Below.refl _ _)))
        (first
        | (go_at_call 23; (with_reducible refine (HF.out _).mono ?_); rintro e w1 ⟨rfl, hb⟩))
      all_goals
        apply hold1T; (focus assumption); intro p0 pB
        go_wp2_with fail
        go_meet
        exact ⟨rfl, pB⟩
    case rest =>
      obtain ⟨rfl, hb⟩ := hcut
      obtain ⟨w13, rfl⟩ : ∃ z, z = wc := ⟨_, rfl⟩
      replace k0 := Blk.later hb k0; clear y0; obtain ⟨a0, b0⟩ := k0.read; have y0 := k0.lt
      replace k1 := Blk.later hb k1; clear y1; obtain ⟨a1, b1⟩ := k1.read; have y1 := k1.lt
      replace k2 := Blk.later hb k2; clear y2; obtain ⟨a2, b2⟩ := k2.read; have y2 := k2.lt
      replace k3 := Blk.later hb k3; clear y3; obtain ⟨a3, b3⟩ := k3.read; have y3 := k3.lt
      replace k4 := Blk.later hb k4; clear y4; obtain ⟨a4, b4⟩ := k4.read; have y4 := k4.lt
      replace hBw : Below w.heap.size w w13 := belowThru hBw hb
      have hzw13 := hBw.size
      clear hb
      go_wp2_with fail
      all_goals
        go_ret
        exact ⟨rfl, by (repeat' first | (with_reducible exact Below.refl _ _) | (with_reducible assumption) | (with_reducible refine belowThru ?_ (by assumption)) | (with_reducible refine belowAlloc ?_))⟩
set_option maxRecDepth 100000 in
set_option maxHeartbeats 16000000 in
theorem true_dt (t nz s1 s2 s3 s4 l1 l2 h1 h2 : Int) (a : Option Addr) (n c : Nat) (zs : List Int) (a2 : Option Addr) (m2 c2 : Nat) (ms : List Int) (w : World) (hR : Row w a n (iv zs)) (hR2 : Row w a2 m2 (hv ms)) (hl : n ≤ 64) (L K : List Int) (B I Kn : Bool) (Z1 Z2 Z3 Z4 T M A1 A2 C1 C2 Y1 Y2 Y3 Y4 Y5 Y6 p1 p2 q1 q2 : Int) (hT : IntKind.i64.wrap (4 * t) = T) (hM : IntKind.i64.wrap ((n : Int) - 1) = M) (hY1 : IntKind.i64.wrap (M * C2) = Y1) (hY2 : IntKind.i64.wrap (Y1 - C1) = Y2) (hY3 : IntKind.i64.wrap (Y2 * A2) = Y3) (hY4 : IntKind.i64.wrap (A1 * C2) = Y4) (hY5 : IntKind.i64.wrap (Y3 - Y4) = Y5) (hY6 : IntKind.i64.wrap (A2 * C2) = Y6) (HM : Hid (∀ w : World, Row w a n (iv zs) → Calls Try.prog 27 #[.agg #[.int .i64 t, .int .i64 nz, .int .i64 s1, .int .i64 s2, .int .i64 s3, .int .i64 s4, .int .i64 l1, .int .i64 l2, .int .i64 h1, .int .i64 h2], .slice a n c] w fun e w' => e = .returned (.tuple #[.agg #[.int .i64 0, .int .i64 1, .int .i64 0, .int .i64 1], .int .u8 3, .int .i64 0]) ∧ Below w.heap.size w w')) (HG : Hid (∀ w : World, Calls Try.prog 56 #[.agg #[.int .i64 t, .int .i64 nz, .int .i64 s1, .int .i64 s2, .int .i64 s3, .int .i64 s4, .int .i64 l1, .int .i64 l2, .int .i64 h1, .int .i64 h2]] w fun e w' => e = .returned (.bool true) ∧ Below w.heap.size w w')) (HV : Hid (∀ w : World, Row w a n (iv zs) → Calls Try.prog 51 #[.slice a n c] w fun e w' => e = .returned (.bool true) ∧ Below w.heap.size w w')) (HAL : Hid (∀ w : World, Row w a n (iv zs) → Row w a2 m2 (hv ms) → Calls Try.prog 52 #[.slice a n c, .slice a2 m2 c2, .int .i64 nz] w fun e w' => ∃ v c', e = .returned (.slice v n c') ∧ Row w' v n (iv L) ∧ Below w.heap.size w w')) (HRV : Hid (∀ (v : Option Addr) (c : Nat) (w : World), Row w v n (iv L) → Calls Try.prog 49 #[.slice v n c] w fun e w' => ∃ v' c', e = .returned (.slice v' n c') ∧ Row w' v' n (iv K) ∧ Below w.heap.size w w')) (HA : Hid (∀ (v : Option Addr) (c : Nat) (w : World), Row w v n (iv L) → Calls Try.prog 53 #[.slice v n c, .int .i64 T, .int .i64 0] w fun e w' => e = .returned (.tuple #[.int .i64 A1, .int .i64 A2, .bool true]) ∧ Below w.heap.size w w')) (HC : Hid (∀ (v : Option Addr) (c : Nat) (w : World), Row w v n (iv K) → Calls Try.prog 53 #[.slice v n c, .int .i64 T, .int .i64 0] w fun e w' => e = .returned (.tuple #[.int .i64 C1, .int .i64 C2, .bool B]) ∧ Below w.heap.size w w')) (HMk : Hid (∀ w : World, Calls Try.prog 57 #[.int .i64 Y5, .int .i64 Y6] w fun e w' => e = .returned (.tuple #[.agg #[.int .i64 p1, .int .i64 p2], .int .i64 0]) ∧ Below w.heap.size w w')) (HMu : Hid (∀ w : World, Calls Try.prog 58 #[.agg #[.int .i64 p1, .int .i64 p2], .agg #[.int .i64 s3, .int .i64 s4]] w fun e w' => e = .returned (.tuple #[.agg #[.int .i64 q1, .int .i64 q2], .int .i64 0]) ∧ Below w.heap.size w w')) (HI : Hid (∀ w : World, Calls Try.prog 59 #[.agg #[.int .i64 l1, .int .i64 l2, .int .i64 h1, .int .i64 h2], .agg #[.int .i64 q1, .int .i64 q2]] w fun e w' => e = .returned (.tuple #[.bool I, .int .i64 0]) ∧ Below w.heap.size w w')) (HJ : Hid (∀ w : World, Calls Try.prog 59 #[.agg #[.int .i64 0, .int .i64 1, .int .i64 0, .int .i64 1], .agg #[.int .i64 q1, .int .i64 q2]] w fun e w' => e = .returned (.tuple #[.bool Kn, .int .i64 0]) ∧ Below w.heap.size w w')) :
    Calls Try.prog 13 #[.agg #[.int .i64 t, .int .i64 nz, .int .i64 s1, .int .i64 s2, .int .i64 s3, .int .i64 s4, .int .i64 l1, .int .i64 l2, .int .i64 h1, .int .i64 h2], .slice a n c, .slice a2 m2 c2, .bool true] w fun e w' => e = .returned (.bool true) ∧ Below w.heap.size w w' := by
  have hd : decide (64 < (n : Int)) = false := by simp; omega
  have HF := Lib.hid (frac_lit 0 1 ⟨by kernel_rfl, by kernel_rfl⟩ (by decide))
  have hmx : Try.prog.follows .mixedOrders = true := by kernel_rfl
  have HR := Lib.hid hR
  clear hR
  have HR2 := Lib.hid hR2
  clear hR2
  go_enter Try.func13, Try.ntmps13
  go_wp2_with fail
  refine (alive_true _).mono ?_
  rintro e w1 ⟨rfl, hb⟩
  have kn0 : Blk w1 (w.heap.size) #[.int .i64 t, .int .i64 nz, .int .i64 s1, .int .i64 s2, .int .i64 s3, .int .i64 s4, .int .i64 l1, .int .i64 l2, .int .i64 h1, .int .i64 h2] 41 := Blk.later hb (by (repeat' first | (with_reducible assumption) | ((with_reducible refine Blk.new ?_); first | rfl | (simp; done)) | (with_reducible refine Blk.alloc ?_)))
  have k0 := kn0; clear kn0; obtain ⟨a0, b0⟩ := k0.read; have y0 := k0.lt
  have hBw : Below w.heap.size w w1 := by (repeat' first | (with_reducible exact Below.refl _ _) | (with_reducible assumption) | (with_reducible refine belowThru ?_ (by assumption)) | (with_reducible refine belowAlloc ?_))
  have hzw1 := hBw.size
  clear hb
  go_wp2_with fail
  refine (HM.out _ (HR.out.later (by (repeat' first | (with_reducible exact Below.refl _ _) | (with_reducible assumption) | (with_reducible refine belowThru ?_ (by assumption)) | (with_reducible refine belowAlloc ?_))))).mono ?_
  rintro e w2 ⟨rfl, hb⟩
  have kn0 : Blk w2 (w.heap.size) #[.int .i64 t, .int .i64 nz, .int .i64 s1, .int .i64 s2, .int .i64 s3, .int .i64 s4, .int .i64 l1, .int .i64 l2, .int .i64 h1, .int .i64 h2] 41 := Blk.later hb (by (repeat' first | (with_reducible assumption) | ((with_reducible refine Blk.new ?_); first | rfl | (simp; done)) | (with_reducible refine Blk.alloc ?_)))
  clear k0 a0 b0 y0
  have k0 := kn0; clear kn0; obtain ⟨a0, b0⟩ := k0.read; have y0 := k0.lt
  replace hBw : Below w.heap.size w w2 := belowThru (by (repeat' first | (with_reducible exact Below.refl _ _) | (with_reducible assumption) | (with_reducible refine belowThru ?_ (by assumption)) | (with_reducible refine belowAlloc ?_))) hb
  have hzw2 := hBw.size
  clear hb
  go_wp2_with fail
  refine (HG.out _).mono ?_
  rintro e w3 ⟨rfl, hb⟩
  have kn0 : Blk w3 (w.heap.size) #[.int .i64 t, .int .i64 nz, .int .i64 s1, .int .i64 s2, .int .i64 s3, .int .i64 s4, .int .i64 l1, .int .i64 l2, .int .i64 h1, .int .i64 h2] 41 := Blk.later hb (by (repeat' first | (with_reducible assumption) | ((with_reducible refine Blk.new ?_); first | rfl | (simp; done)) | (with_reducible refine Blk.alloc ?_)))
  have kn1 : Blk w3 (w2.heap.size) #[.int .i64 0, .int .i64 1, .int .i64 0, .int .i64 1] 30 := Blk.later hb (by (repeat' first | (with_reducible assumption) | ((with_reducible refine Blk.new ?_); first | rfl | (simp; done)) | (with_reducible refine Blk.alloc ?_)))
  clear k0 a0 b0 y0
  have k0 := kn0; clear kn0; obtain ⟨a0, b0⟩ := k0.read; have y0 := k0.lt
  have k1 := kn1; clear kn1; obtain ⟨a1, b1⟩ := k1.read; have y1 := k1.lt
  replace hBw : Below w.heap.size w w3 := belowThru (by (repeat' first | (with_reducible exact Below.refl _ _) | (with_reducible assumption) | (with_reducible refine belowThru ?_ (by assumption)) | (with_reducible refine belowAlloc ?_))) hb
  have hzw3 := hBw.size
  clear hb
  go_wp2_with fail
  refine (HV.out _ (HR.out.later (by (repeat' first | (with_reducible exact Below.refl _ _) | (with_reducible assumption) | (with_reducible refine belowThru ?_ (by assumption)) | (with_reducible refine belowAlloc ?_))))).mono ?_
  rintro e w4 ⟨rfl, hb⟩
  have kn0 : Blk w4 (w.heap.size) #[.int .i64 t, .int .i64 nz, .int .i64 s1, .int .i64 s2, .int .i64 s3, .int .i64 s4, .int .i64 l1, .int .i64 l2, .int .i64 h1, .int .i64 h2] 41 := Blk.later hb (by (repeat' first | (with_reducible assumption) | ((with_reducible refine Blk.new ?_); first | rfl | (simp; done)) | (with_reducible refine Blk.alloc ?_)))
  have kn1 : Blk w4 (w2.heap.size) #[.int .i64 0, .int .i64 1, .int .i64 0, .int .i64 1] 30 := Blk.later hb (by (repeat' first | (with_reducible assumption) | ((with_reducible refine Blk.new ?_); first | rfl | (simp; done)) | (with_reducible refine Blk.alloc ?_)))
  clear k0 a0 b0 y0
  clear k1 a1 b1 y1
  have k0 := kn0; clear kn0; obtain ⟨a0, b0⟩ := k0.read; have y0 := k0.lt
  have k1 := kn1; clear kn1; obtain ⟨a1, b1⟩ := k1.read; have y1 := k1.lt
  replace hBw : Below w.heap.size w w4 := belowThru (by (repeat' first | (with_reducible exact Below.refl _ _) | (with_reducible assumption) | (with_reducible refine belowThru ?_ (by assumption)) | (with_reducible refine belowAlloc ?_))) hb
  have hzw4 := hBw.size
  clear hb
  go_wp2_with fail
  refine (HAL.out _ (HR.out.later (by (repeat' first | (with_reducible exact Below.refl _ _) | (with_reducible assumption) | (with_reducible refine belowThru ?_ (by assumption)) | (with_reducible refine belowAlloc ?_)))) (HR2.out.later (by (repeat' first | (with_reducible exact Below.refl _ _) | (with_reducible assumption) | (with_reducible refine belowThru ?_ (by assumption)) | (with_reducible refine belowAlloc ?_))))).mono ?_
  rintro e w5 ⟨v, c', rfl, hRow, hb⟩
  have HQ := Lib.hid hRow
  clear hRow
  have kn0 : Blk w5 (w.heap.size) #[.int .i64 t, .int .i64 nz, .int .i64 s1, .int .i64 s2, .int .i64 s3, .int .i64 s4, .int .i64 l1, .int .i64 l2, .int .i64 h1, .int .i64 h2] 41 := Blk.later hb (by (repeat' first | (with_reducible assumption) | ((with_reducible refine Blk.new ?_); first | rfl | (simp; done)) | (with_reducible refine Blk.alloc ?_)))
  have kn1 : Blk w5 (w2.heap.size) #[.int .i64 0, .int .i64 1, .int .i64 0, .int .i64 1] 30 := Blk.later hb (by (repeat' first | (with_reducible assumption) | ((with_reducible refine Blk.new ?_); first | rfl | (simp; done)) | (with_reducible refine Blk.alloc ?_)))
  clear k0 a0 b0 y0
  clear k1 a1 b1 y1
  have k0 := kn0; clear kn0; obtain ⟨a0, b0⟩ := k0.read; have y0 := k0.lt
  have k1 := kn1; clear kn1; obtain ⟨a1, b1⟩ := k1.read; have y1 := k1.lt
  replace hBw : Below w.heap.size w w5 := belowThru (by (repeat' first | (with_reducible exact Below.refl _ _) | (with_reducible assumption) | (with_reducible refine belowThru ?_ (by assumption)) | (with_reducible refine belowAlloc ?_))) hb
  have hzw5 := hBw.size
  clear hb
  have hb1 : Below w5.heap.size w5 w5 := Below.refl _ _
  go_wp2_with fail
  refine (HA.out _ _ _ (HQ.out.later (by (repeat' first | (with_reducible exact Below.refl _ _) | (with_reducible assumption) | (with_reducible refine belowThru ?_ (by assumption)) | (with_reducible refine belowAlloc ?_))))).mono ?_
  rintro e w6 ⟨rfl, hb⟩
  replace hb1 : Below w5.heap.size w5 w6 := belowThru (by (repeat' first | (with_reducible exact Below.refl _ _) | (with_reducible assumption) | (with_reducible refine belowThru ?_ (by assumption)) | (with_reducible refine belowAlloc ?_))) hb
  have kn0 : Blk w6 (w.heap.size) #[.int .i64 t, .int .i64 nz, .int .i64 s1, .int .i64 s2, .int .i64 s3, .int .i64 s4, .int .i64 l1, .int .i64 l2, .int .i64 h1, .int .i64 h2] 41 := Blk.later hb (by (repeat' first | (with_reducible assumption) | ((with_reducible refine Blk.new ?_); first | rfl | (simp; done)) | (with_reducible refine Blk.alloc ?_)))
  have kn1 : Blk w6 (w2.heap.size) #[.int .i64 0, .int .i64 1, .int .i64 0, .int .i64 1] 30 := Blk.later hb (by (repeat' first | (with_reducible assumption) | ((with_reducible refine Blk.new ?_); first | rfl | (simp; done)) | (with_reducible refine Blk.alloc ?_)))
  clear k0 a0 b0 y0
  clear k1 a1 b1 y1
  have k0 := kn0; clear kn0; obtain ⟨a0, b0⟩ := k0.read; have y0 := k0.lt
  have k1 := kn1; clear kn1; obtain ⟨a1, b1⟩ := k1.read; have y1 := k1.lt
  replace hBw : Below w.heap.size w w6 := belowThru (by (repeat' first | (with_reducible exact Below.refl _ _) | (with_reducible assumption) | (with_reducible refine belowThru ?_ (by assumption)) | (with_reducible refine belowAlloc ?_))) hb
  have hzw6 := hBw.size
  clear hb
  go_wp2_with fail
  obtain ⟨Wp, rfl⟩ : ∃ Wp, Wp = w6 := ⟨_, rfl⟩
  clear a0 b0 y0; have y0 := k0.lt
  clear a1 b1 y1; have y1 := k1.lt
  refine wp_region_held_drew (S := fun w' => (Blk w' (w.heap.size) #[.int .i64 t, .int .i64 nz, .int .i64 s1, .int .i64 s2, .int .i64 s3, .int .i64 s4, .int .i64 l1, .int .i64 l2, .int .i64 h1, .int .i64 h2] 41 ∧ (∀ i : Nat, w'.cell? ⟨w.heap.size, i, none⟩ = (#[.int .i64 t, .int .i64 nz, .int .i64 s1, .int .i64 s2, .int .i64 s3, .int .i64 s4, .int .i64 l1, .int .i64 l2, .int .i64 h1, .int .i64 h2] : Array Value)[i]?)) ∧ Below w.heap.size w w') hmx ⟨k0.drew.full, hBw.drew⟩ (fun hHeld => ?_)
  obtain ⟨Wd, hWd⟩ : ∃ Wd, Wp.drew = Wd := ⟨_, rfl⟩
  have q0 : Blk Wd (w.heap.size) #[.int .i64 t, .int .i64 nz, .int .i64 s1, .int .i64 s2, .int .i64 s3, .int .i64 s4, .int .i64 l1, .int .i64 l2, .int .i64 h1, .int .i64 h2] 41 := by rw [← hWd]; exact k0.drew
  have q1 : Blk Wd (w2.heap.size) #[.int .i64 0, .int .i64 1, .int .i64 0, .int .i64 1] 30 := by rw [← hWd]; exact k1.drew
  have hBd : Below w.heap.size w Wd := by rw [← hWd]; exact hBw.drew
  have hb1d : Below w5.heap.size w5 Wd := by rw [← hWd]; exact hb1.drew
  rw [hWd] at hHeld ⊢
  clear hWd k0 k1 y0 y1 hBw hb1
  refine wpAnyH_take (i := 0) (v := ?_) rfl (by kernel_rfl) (by kernel_rfl) (by kernel_rfl) (fun _ _ _ h => h) (Or.inl ⟨by rfl, ?hT24⟩) (by assumption) ?_
  case hT24 => ((intro w hSw; (try dsimp only at hSw); go_simp); try (with_reducible rfl))
  try simp only [Act.put, List.setIfInBounds_toArray, List.set_cons_zero, List.set_cons_succ]
  refine wpAnyH_take (i := 2) (v := ?_) rfl (by kernel_rfl) (by kernel_rfl) (by kernel_rfl) (fun _ _ _ h => h) (Or.inl ⟨by rfl, ?hT25⟩) (by assumption) ?_
  case hT25 => ((intro w hSw; (try dsimp only at hSw); go_simp); try (with_reducible rfl))
  try simp only [Act.put, List.setIfInBounds_toArray, List.set_cons_zero, List.set_cons_succ]
  refine wpAnyH_take (i := 3) (v := ?_) rfl (by kernel_rfl) (by kernel_rfl) (by kernel_rfl) (fun _ _ _ h => h) (Or.inl ⟨by rfl, ?hT26⟩) (by assumption) ?_
  case hT26 => ((intro w hSw; (try dsimp only at hSw); go_simp); try (with_reducible rfl))
  try simp only [Act.put, List.setIfInBounds_toArray, List.set_cons_zero, List.set_cons_succ]
  refine wpAnyH_take (i := 4) (v := ?_) rfl (by kernel_rfl) (by kernel_rfl) (by kernel_rfl) (fun _ _ _ h => h) (Or.inl ⟨by rfl, ?hT27⟩) (by assumption) ?_
  case hT27 => ((intro w hSw; (try dsimp only at hSw); go_simp); try (with_reducible rfl))
  try simp only [Act.put, List.setIfInBounds_toArray, List.set_cons_zero, List.set_cons_succ]
  refine wpAnyH_ready (rs := [1]) (by kernel_rfl) (by simp) ?_
  refine AllReadyH.cons rfl (fun K hK => ?_) AllReadyH.nil
  go_simp
  refine (HRV.out _ _ _ (HQ.out.later hb1d)).mono ?_
  rintro e w7 ⟨v', c'', rfl, hRow, hb⟩
  have HB := Lib.hid hRow
  clear hRow
  have k0 := Blk.later hb q0; have k1 := Blk.later hb q1; have hBw : Below w.heap.size w w7 := belowThru hBd hb
  clear q0 q1 hBd hb1d hb
  try go_simp
  refine hK.out _ _ ?_ (fun hHeldN => ?_)
  · (try dsimp only); exact ⟨k0.full, hBw⟩
  clear hK K hHeld
  have hHeld := hHeldN
  clear hHeldN
  try simp only [Act.put, List.setIfInBounds_toArray, List.set_cons_zero, List.set_cons_succ]
  refine wpAnyH_ready (rs := [5]) (by kernel_rfl) (by simp) ?_
  refine AllReadyH.cons rfl (fun K hK => ?_) AllReadyH.nil
  go_simp
  refine (HC.out _ _ _ HB.out).mono ?_
  rintro e w8 ⟨rfl, hb⟩
  replace k0 := Blk.later hb k0; replace k1 := Blk.later hb k1; replace hBw : Below w.heap.size w w8 := belowThru hBw hb
  clear hb
  try go_simp
  refine hK.out _ _ ?_ (fun hHeldN => ?_)
  · (try dsimp only); exact ⟨k0.full, hBw⟩
  clear hK K hHeld
  have hHeld := hHeldN
  clear hHeldN
  try simp only [Act.put, List.setIfInBounds_toArray, List.set_cons_zero, List.set_cons_succ]
  refine wpAnyH_take (i := 6) (v := ?_) rfl (by kernel_rfl) (by kernel_rfl) (by kernel_rfl) (fun _ _ _ h => h) (Or.inl ⟨by rfl, ?hT28⟩) (by assumption) ?_
  case hT28 => ((intro w hSw; (try dsimp only at hSw); go_simp); try (with_reducible rfl))
  try simp only [Act.put, List.setIfInBounds_toArray, List.set_cons_zero, List.set_cons_succ]
  refine wpAnyH_take (i := 7) (v := ?_) rfl (by kernel_rfl) (by kernel_rfl) (by kernel_rfl) (fun _ _ _ h => h) (Or.inl ⟨by rfl, ?hT29⟩) (by assumption) ?_
  case hT29 => ((intro w hSw; (try dsimp only at hSw); go_simp); try (with_reducible rfl))
  try simp only [Act.put, List.setIfInBounds_toArray, List.set_cons_zero, List.set_cons_succ]
  refine wpAnyH_take (i := 8) (v := ?_) rfl (by kernel_rfl) (by kernel_rfl) (by kernel_rfl) (fun _ _ _ h => h) (Or.inl ⟨by rfl, ?hT30⟩) (by assumption) ?_
  case hT30 => ((intro w hSw; (try dsimp only at hSw); go_simp); try (with_reducible rfl))
  try simp only [Act.put, List.setIfInBounds_toArray, List.set_cons_zero, List.set_cons_succ]
  refine wpAnyH_take (i := 9) (v := ?_) rfl (by kernel_rfl) (by kernel_rfl) (by kernel_rfl) (fun _ _ _ h => h) (Or.inl ⟨by rfl, ?hT31⟩) (by assumption) ?_
  case hT31 => ((intro w hSw; (try dsimp only at hSw); go_simp); try (with_reducible rfl))
  try simp only [Act.put, List.setIfInBounds_toArray, List.set_cons_zero, List.set_cons_succ]
  refine wpAnyH_ready (rs := [10]) (by kernel_rfl) (by simp) ?_
  refine AllReadyH.cons rfl (fun K hK => ?_) AllReadyH.nil
  go_simp
  refine hK.out _ _ ?_ (fun hHeldN => ?_)
  · (try dsimp only); exact ⟨k0.full, hBw⟩
  clear hK K hHeld
  have hHeld := hHeldN
  clear hHeldN
  try simp only [Act.put, List.setIfInBounds_toArray, List.set_cons_zero, List.set_cons_succ]
  refine wpAnyH_ready (rs := [11]) (by kernel_rfl) (by simp) ?_
  refine AllReadyH.cons rfl (fun K hK => ?_) AllReadyH.nil
  go_simp
  refine hK.out _ _ ?_ (fun hHeldN => ?_)
  · (try dsimp only); exact ⟨k0.full, hBw⟩
  clear hK K hHeld
  have hHeld := hHeldN
  clear hHeldN
  try simp only [Act.put, List.setIfInBounds_toArray, List.set_cons_zero, List.set_cons_succ]
  refine wpAnyH_ready (rs := [12]) (by kernel_rfl) (by simp) ?_
  refine AllReadyH.cons rfl (fun K hK => ?_) AllReadyH.nil
  go_simp
  refine hK.out _ _ ?_ (fun hHeldN => ?_)
  · (try dsimp only); exact ⟨k0.full, hBw⟩
  clear hK K hHeld
  have hHeld := hHeldN
  clear hHeldN
  try simp only [Act.put, List.setIfInBounds_toArray, List.set_cons_zero, List.set_cons_succ]
  refine wpAnyH_done (by kernel_rfl) ?_ _
  obtain ⟨a0, b0⟩ := k0.read; have y0 := k0.lt
  obtain ⟨a1, b1⟩ := k1.read; have y1 := k1.lt
  have hzw8 := hBw.size
  go_wp2_with fail
  refine (HMk.out _).mono ?_
  rintro e w9 ⟨rfl, hb⟩
  have kn0 : Blk w9 (w.heap.size) #[.int .i64 t, .int .i64 nz, .int .i64 s1, .int .i64 s2, .int .i64 s3, .int .i64 s4, .int .i64 l1, .int .i64 l2, .int .i64 h1, .int .i64 h2] 41 := Blk.later hb (by (repeat' first | (with_reducible assumption) | ((with_reducible refine Blk.new ?_); first | rfl | (simp; done)) | (with_reducible refine Blk.alloc ?_)))
  have kn1 : Blk w9 (w2.heap.size) #[.int .i64 0, .int .i64 1, .int .i64 0, .int .i64 1] 30 := Blk.later hb (by (repeat' first | (with_reducible assumption) | ((with_reducible refine Blk.new ?_); first | rfl | (simp; done)) | (with_reducible refine Blk.alloc ?_)))
  have kn2 : Blk w9 (w8.heap.size) #[.int .i64 s3, .int .i64 s4] 23 := Blk.later hb (by (repeat' first | (with_reducible assumption) | ((with_reducible refine Blk.new ?_); first | rfl | (simp; done)) | (with_reducible refine Blk.alloc ?_)))
  clear k0 a0 b0 y0
  clear k1 a1 b1 y1
  have k0 := kn0; clear kn0; obtain ⟨a0, b0⟩ := k0.read; have y0 := k0.lt
  have k1 := kn1; clear kn1; obtain ⟨a1, b1⟩ := k1.read; have y1 := k1.lt
  have k2 := kn2; clear kn2; obtain ⟨a2, b2⟩ := k2.read; have y2 := k2.lt
  replace hBw : Below w.heap.size w w9 := belowThru (by (repeat' first | (with_reducible exact Below.refl _ _) | (with_reducible assumption) | (with_reducible refine belowThru ?_ (by assumption)) | (with_reducible refine belowAlloc ?_))) hb
  have hzw9 := hBw.size
  clear hb
  go_wp2_with fail
  refine (HMu.out _).mono ?_
  rintro e w10 ⟨rfl, hb⟩
  have kn0 : Blk w10 (w.heap.size) #[.int .i64 t, .int .i64 nz, .int .i64 s1, .int .i64 s2, .int .i64 s3, .int .i64 s4, .int .i64 l1, .int .i64 l2, .int .i64 h1, .int .i64 h2] 41 := Blk.later hb (by (repeat' first | (with_reducible assumption) | ((with_reducible refine Blk.new ?_); first | rfl | (simp; done)) | (with_reducible refine Blk.alloc ?_)))
  have kn1 : Blk w10 (w2.heap.size) #[.int .i64 0, .int .i64 1, .int .i64 0, .int .i64 1] 30 := Blk.later hb (by (repeat' first | (with_reducible assumption) | ((with_reducible refine Blk.new ?_); first | rfl | (simp; done)) | (with_reducible refine Blk.alloc ?_)))
  have kn2 : Blk w10 (w8.heap.size) #[.int .i64 s3, .int .i64 s4] 23 := Blk.later hb (by (repeat' first | (with_reducible assumption) | ((with_reducible refine Blk.new ?_); first | rfl | (simp; done)) | (with_reducible refine Blk.alloc ?_)))
  have kn3 : Blk w10 (w9.heap.size) #[.int .i64 p1, .int .i64 p2] 23 := Blk.later hb (by (repeat' first | (with_reducible assumption) | ((with_reducible refine Blk.new ?_); first | rfl | (simp; done)) | (with_reducible refine Blk.alloc ?_)))
  clear k0 a0 b0 y0
  clear k1 a1 b1 y1
  clear k2 a2 b2 y2
  have k0 := kn0; clear kn0; obtain ⟨a0, b0⟩ := k0.read; have y0 := k0.lt
  have k1 := kn1; clear kn1; obtain ⟨a1, b1⟩ := k1.read; have y1 := k1.lt
  have k2 := kn2; clear kn2; obtain ⟨a2, b2⟩ := k2.read; have y2 := k2.lt
  have k3 := kn3; clear kn3; obtain ⟨a3, b3⟩ := k3.read; have y3 := k3.lt
  replace hBw : Below w.heap.size w w10 := belowThru (by (repeat' first | (with_reducible exact Below.refl _ _) | (with_reducible assumption) | (with_reducible refine belowThru ?_ (by assumption)) | (with_reducible refine belowAlloc ?_))) hb
  have hzw10 := hBw.size
  clear hb
  go_wp2_with fail
  refine (HI.out _).mono ?_
  rintro e w11 ⟨rfl, hb⟩
  have kn0 : Blk w11 (w.heap.size) #[.int .i64 t, .int .i64 nz, .int .i64 s1, .int .i64 s2, .int .i64 s3, .int .i64 s4, .int .i64 l1, .int .i64 l2, .int .i64 h1, .int .i64 h2] 41 := Blk.later hb (by (repeat' first | (with_reducible assumption) | ((with_reducible refine Blk.new ?_); first | rfl | (simp; done)) | (with_reducible refine Blk.alloc ?_)))
  have kn1 : Blk w11 (w2.heap.size) #[.int .i64 0, .int .i64 1, .int .i64 0, .int .i64 1] 30 := Blk.later hb (by (repeat' first | (with_reducible assumption) | ((with_reducible refine Blk.new ?_); first | rfl | (simp; done)) | (with_reducible refine Blk.alloc ?_)))
  have kn2 : Blk w11 (w8.heap.size) #[.int .i64 s3, .int .i64 s4] 23 := Blk.later hb (by (repeat' first | (with_reducible assumption) | ((with_reducible refine Blk.new ?_); first | rfl | (simp; done)) | (with_reducible refine Blk.alloc ?_)))
  have kn3 : Blk w11 (w9.heap.size) #[.int .i64 p1, .int .i64 p2] 23 := Blk.later hb (by (repeat' first | (with_reducible assumption) | ((with_reducible refine Blk.new ?_); first | rfl | (simp; done)) | (with_reducible refine Blk.alloc ?_)))
  have kn4 : Blk w11 (w10.heap.size) #[.int .i64 q1, .int .i64 q2] 23 := Blk.later hb (by (repeat' first | (with_reducible assumption) | ((with_reducible refine Blk.new ?_); first | rfl | (simp; done)) | (with_reducible refine Blk.alloc ?_)))
  clear k0 a0 b0 y0
  clear k1 a1 b1 y1
  clear k2 a2 b2 y2
  clear k3 a3 b3 y3
  have k0 := kn0; clear kn0; obtain ⟨a0, b0⟩ := k0.read; have y0 := k0.lt
  have k1 := kn1; clear kn1; obtain ⟨a1, b1⟩ := k1.read; have y1 := k1.lt
  have k2 := kn2; clear kn2; obtain ⟨a2, b2⟩ := k2.read; have y2 := k2.lt
  have k3 := kn3; clear kn3; obtain ⟨a3, b3⟩ := k3.read; have y3 := k3.lt
  have k4 := kn4; clear kn4; obtain ⟨a4, b4⟩ := k4.read; have y4 := k4.lt
  replace hBw : Below w.heap.size w w11 := belowThru (by (repeat' first | (with_reducible exact Below.refl _ _) | (with_reducible assumption) | (with_reducible refine belowThru ?_ (by assumption)) | (with_reducible refine belowAlloc ?_))) hb
  have hzw11 := hBw.size
  clear hb
  go_wp2_with fail
  refine (HJ.out _).mono ?_
  rintro e w12 ⟨rfl, hb⟩
  have kn0 : Blk w12 (w.heap.size) #[.int .i64 t, .int .i64 nz, .int .i64 s1, .int .i64 s2, .int .i64 s3, .int .i64 s4, .int .i64 l1, .int .i64 l2, .int .i64 h1, .int .i64 h2] 41 := Blk.later hb (by (repeat' first | (with_reducible assumption) | ((with_reducible refine Blk.new ?_); first | rfl | (simp; done)) | (with_reducible refine Blk.alloc ?_)))
  have kn1 : Blk w12 (w2.heap.size) #[.int .i64 0, .int .i64 1, .int .i64 0, .int .i64 1] 30 := Blk.later hb (by (repeat' first | (with_reducible assumption) | ((with_reducible refine Blk.new ?_); first | rfl | (simp; done)) | (with_reducible refine Blk.alloc ?_)))
  have kn2 : Blk w12 (w8.heap.size) #[.int .i64 s3, .int .i64 s4] 23 := Blk.later hb (by (repeat' first | (with_reducible assumption) | ((with_reducible refine Blk.new ?_); first | rfl | (simp; done)) | (with_reducible refine Blk.alloc ?_)))
  have kn3 : Blk w12 (w9.heap.size) #[.int .i64 p1, .int .i64 p2] 23 := Blk.later hb (by (repeat' first | (with_reducible assumption) | ((with_reducible refine Blk.new ?_); first | rfl | (simp; done)) | (with_reducible refine Blk.alloc ?_)))
  have kn4 : Blk w12 (w10.heap.size) #[.int .i64 q1, .int .i64 q2] 23 := Blk.later hb (by (repeat' first | (with_reducible assumption) | ((with_reducible refine Blk.new ?_); first | rfl | (simp; done)) | (with_reducible refine Blk.alloc ?_)))
  clear k0 a0 b0 y0
  clear k1 a1 b1 y1
  clear k2 a2 b2 y2
  clear k3 a3 b3 y3
  clear k4 a4 b4 y4
  have k0 := kn0; clear kn0; obtain ⟨a0, b0⟩ := k0.read; have y0 := k0.lt
  have k1 := kn1; clear kn1; obtain ⟨a1, b1⟩ := k1.read; have y1 := k1.lt
  have k2 := kn2; clear kn2; obtain ⟨a2, b2⟩ := k2.read; have y2 := k2.lt
  have k3 := kn3; clear kn3; obtain ⟨a3, b3⟩ := k3.read; have y3 := k3.lt
  have k4 := kn4; clear kn4; obtain ⟨a4, b4⟩ := k4.read; have y4 := k4.lt
  replace hBw : Below w.heap.size w w12 := belowThru (by (repeat' first | (with_reducible exact Below.refl _ _) | (with_reducible assumption) | (with_reducible refine belowThru ?_ (by assumption)) | (with_reducible refine belowAlloc ?_))) hb
  have hzw12 := hBw.size
  clear hb
  go_wp2_with fail
  obtain ⟨Wp, rfl⟩ : ∃ Wp, Wp = w12 := ⟨_, rfl⟩
  clear a0 b0 y0; have y0 := k0.lt
  clear a1 b1 y1; have y1 := k1.lt
  clear a2 b2 y2; have y2 := k2.lt
  clear a3 b3 y3; have y3 := k3.lt
  clear a4 b4 y4; have y4 := k4.lt
  go_cut [30] (fun s30 wx => s30 = .bool true ∧ Below Wp.heap.size Wp wx)
  case first =>
    go_region_held3 (fun w' => (Blk w' (w2.heap.size) #[.int .i64 0, .int .i64 1, .int .i64 0, .int .i64 1] 30 ∧ (∀ i : Nat, w'.cell? ⟨w2.heap.size, i, none⟩ = (#[.int .i64 0, .int .i64 1, .int .i64 0, .int .i64 1] : Array Value)[i]?)) ∧ Below Wp.heap.size Wp w')
      (((first | (apply hold1T; (focus assumption); intro p0 pB) | skip); refine ⟨Blk.full ?_, ?_⟩; all_goals (first | ((repeat' (first | (with_reducible assumption) | ((with_reducible refine Blk.new ?_); first | rfl | (simp; done)) | (with_reducible refine Blk.later (by assumption) ?_) | (with_reducible refine Blk.alloc ?_) | (with_reducible refine Blk.drewN ?_) | (with_reducible refine Blk.drew ?_) | (with_reducible refine Blk.other ?_ (by first | omega | (simp; done) | (simp; omega))))); done) | ((repeat' (first | (with_reducible exact Below.refl _ _) | (with_reducible assumption) | (with_reducible refine belowThru ?_ (by assumption)) | (with_reducible refine belowAlloc ?_) | (with_reducible refine Below.setCell ?_ (by first | omega | (simp; done) | (simp; omega)) _) | (with_reducible refine Below.drew ?_) | (with_reducible refine below_drewN ?_ _))); done) | exact Below.refl _ _)))
      (first
      | (go_at_call 23; (with_reducible refine (HF.out _).mono ?_); rintro e w1 ⟨rfl, hb⟩))
    all_goals
      apply hold1T; (focus assumption); intro p0 pB
      go_wp2_with fail
      go_meet
      exact ⟨rfl, pB⟩
  case rest =>
    obtain ⟨rfl, hb⟩ := hcut
    obtain ⟨w13, rfl⟩ : ∃ z, z = wc := ⟨_, rfl⟩
    replace k0 := Blk.later hb k0; clear y0; obtain ⟨a0, b0⟩ := k0.read; have y0 := k0.lt
    replace k1 := Blk.later hb k1; clear y1; obtain ⟨a1, b1⟩ := k1.read; have y1 := k1.lt
    replace k2 := Blk.later hb k2; clear y2; obtain ⟨a2, b2⟩ := k2.read; have y2 := k2.lt
    replace k3 := Blk.later hb k3; clear y3; obtain ⟨a3, b3⟩ := k3.read; have y3 := k3.lt
    replace k4 := Blk.later hb k4; clear y4; obtain ⟨a4, b4⟩ := k4.read; have y4 := k4.lt
    replace hBw : Below w.heap.size w w13 := belowThru hBw hb
    have hzw13 := hBw.size
    clear hb
    go_wp2_with fail
    all_goals
      go_ret
      exact ⟨rfl, by (repeat' first | (with_reducible exact Below.refl _ _) | (with_reducible assumption) | (with_reducible refine belowThru ?_ (by assumption)) | (with_reducible refine belowAlloc ?_))⟩
end Go.Proofs.Ytbcgebobfnclnaa
