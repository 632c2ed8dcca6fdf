/-
  LensTight: the walks and the law.
-/
import Derived.Deep.RegionHeld3
import Derived.Test.YtbdcmdofmokoeaaQKLawAdd
import Derived.Test.YtbdcmdofmokoeaaQKLawTiM
namespace Go.Proofs.Ytbdcmdofmokoeaa
open Go.RowKit Go.Shelf
set_option linter.unusedVariables false
set_option linter.unusedSimpArgs false

theorem holdT2 {w : World} {b0 b1 : Nat} {c0 c1 : Array Value} {t0 t1 : TypeId} {D0 D1 E G : Prop} (h : (Blk w b0 c0 t0 ∧ D0) ∧ (Blk w b1 c1 t1 ∧ D1) ∧ E) (g : Blk w b0 c0 t0 → Blk w b1 c1 t1 → E → G) : G := g h.1.1 h.2.1.1 h.2.2
set_option maxRecDepth 100000 in
set_option maxHeartbeats 16000000 in
theorem tig_0 (a : Option Addr) (n c : Nat) (vs : List Vw) (X Z lo hi r1 r2 r3 r4 m1 m2 m3 m4 s1 s2 s3 s4 eR eC : Int) (w : World) (hn : 11 < n) (HR : Hid (VRow w a n vs)) (HAl : Hid (∀ w : World, Calls Try.prog 23 #[] w fun e w' => e = .returned (.bool true) ∧ Below w.heap.size w w'))  :
    Calls Try.prog 9 #[.slice a n c, .agg #[.int .i64 X, .int .i64 Z, .int .i64 lo, .int .i64 hi]] w fun e w' => e = .returned (.bool true) ∧ Below w.heap.size w w' := by
  have hn1 : decide ((11 : Int) < (n : Int)) = true := by simp; omega
  go_enter Try.func9, Try.ntmps9
  go_wp2_with fail
  refine (HAl.out _).mono ?_
  rintro e w1 ⟨rfl, hb⟩
  have kn0 : Blk w1 (w.heap.size) #[.int .i64 X, .int .i64 Z, .int .i64 lo, .int .i64 hi] 45 := Blk.later hb (by (repeat' (first | (with_reducible assumption) | (with_reducible refine Blk.set2 ?_) | ((with_reducible refine Blk.new ?_); first | rfl | (simp; done)) | (with_reducible refine Blk.later (by assumption) ?_) | (with_reducible refine Blk.alloc ?_) | (with_reducible refine Blk.drewN ?_) | (with_reducible refine Blk.drew ?_) | (with_reducible refine Blk.other ?_ (by first | omega | (simp; done) | (simp; omega))))))
  have k0 := kn0; clear kn0; obtain ⟨a0, b0⟩ := k0.read; have y0 := k0.lt
  have hBw : Below w.heap.size w w1 := by (repeat' (first | (with_reducible exact Below.refl _ _) | (with_reducible assumption) | (with_reducible refine belowThru ?_ (by assumption)) | (with_reducible refine belowAlloc ?_) | (with_reducible refine Below.setCell ?_ (by first | omega | (simp; done) | (simp; omega)) _) | (with_reducible refine Below.drew ?_) | (with_reducible refine below_drewN ?_ _)))
  have hzw1 := hBw.size
  clear hb
  go_wp2_with fail
  go_ret
  exact ⟨rfl, by (repeat' (first | (with_reducible exact Below.refl _ _) | (with_reducible assumption) | (with_reducible refine belowThru ?_ (by assumption)) | (with_reducible refine belowAlloc ?_) | (with_reducible refine Below.setCell ?_ (by first | omega | (simp; done) | (simp; omega)) _) | (with_reducible refine Below.drew ?_) | (with_reducible refine below_drewN ?_ _)))⟩
set_option maxRecDepth 100000 in
set_option maxHeartbeats 16000000 in
theorem tig_1 (a : Option Addr) (n c : Nat) (vs : List Vw) (X Z lo hi r1 r2 r3 r4 m1 m2 m3 m4 s1 s2 s3 s4 eR eC : Int) (w : World) (hn : n ≤ 11) (hE : (eR != 0) = true) (HR : Hid (VRow w a n vs)) (HAl : Hid (∀ w : World, Calls Try.prog 23 #[] w fun e w' => e = .returned (.bool true) ∧ Below w.heap.size w w')) (HX : Hid (∀ W : World, VRow W a n vs → Calls Try.prog 19 #[.slice a n c, .int .i64 X, .int .i64 Z] W fun e W' => e = .returned (.tuple #[.agg #[.int .i64 r1, .int .i64 r2, .int .i64 r3, .int .i64 r4], .int .i64 eR]) ∧ Below W.heap.size W W')) :
    Calls Try.prog 9 #[.slice a n c, .agg #[.int .i64 X, .int .i64 Z, .int .i64 lo, .int .i64 hi]] w fun e w' => e = .returned (.bool true) ∧ Below w.heap.size w w' := by
  have hn1 : decide ((11 : Int) < (n : Int)) = false := by simp; omega
  go_enter Try.func9, Try.ntmps9
  go_wp2_with fail
  refine (HAl.out _).mono ?_
  rintro e w1 ⟨rfl, hb⟩
  have kn0 : Blk w1 (w.heap.size) #[.int .i64 X, .int .i64 Z, .int .i64 lo, .int .i64 hi] 45 := Blk.later hb (by (repeat' (first | (with_reducible assumption) | (with_reducible refine Blk.set2 ?_) | ((with_reducible refine Blk.new ?_); first | rfl | (simp; done)) | (with_reducible refine Blk.later (by assumption) ?_) | (with_reducible refine Blk.alloc ?_) | (with_reducible refine Blk.drewN ?_) | (with_reducible refine Blk.drew ?_) | (with_reducible refine Blk.other ?_ (by first | omega | (simp; done) | (simp; omega))))))
  have k0 := kn0; clear kn0; obtain ⟨a0, b0⟩ := k0.read; have y0 := k0.lt
  have hBw : Below w.heap.size w w1 := by (repeat' (first | (with_reducible exact Below.refl _ _) | (with_reducible assumption) | (with_reducible refine belowThru ?_ (by assumption)) | (with_reducible refine belowAlloc ?_) | (with_reducible refine Below.setCell ?_ (by first | omega | (simp; done) | (simp; omega)) _) | (with_reducible refine Below.drew ?_) | (with_reducible refine below_drewN ?_ _)))
  have hzw1 := hBw.size
  clear hb
  go_wp2_with fail
  refine (HX.out _ (HR.out.later (by (repeat' (first | (with_reducible exact Below.refl _ _) | (with_reducible assumption) | (with_reducible refine belowThru ?_ (by assumption)) | (with_reducible refine belowAlloc ?_) | (with_reducible refine Below.setCell ?_ (by first | omega | (simp; done) | (simp; omega)) _) | (with_reducible refine Below.drew ?_) | (with_reducible refine below_drewN ?_ _)))))).mono ?_
  rintro e w2 ⟨rfl, hb⟩
  have kn0 : Blk w2 (w.heap.size) #[.int .i64 X, .int .i64 Z, .int .i64 lo, .int .i64 hi] 45 := Blk.later hb (by (repeat' (first | (with_reducible assumption) | (with_reducible refine Blk.set2 ?_) | ((with_reducible refine Blk.new ?_); first | rfl | (simp; done)) | (with_reducible refine Blk.later (by assumption) ?_) | (with_reducible refine Blk.alloc ?_) | (with_reducible refine Blk.drewN ?_) | (with_reducible refine Blk.drew ?_) | (with_reducible refine Blk.other ?_ (by first | omega | (simp; done) | (simp; omega))))))
  clear k0 a0 b0 y0
  have k0 := kn0; clear kn0; obtain ⟨a0, b0⟩ := k0.read; have y0 := k0.lt
  replace hBw : Below w.heap.size w w2 := belowThru (by (repeat' (first | (with_reducible exact Below.refl _ _) | (with_reducible assumption) | (with_reducible refine belowThru ?_ (by assumption)) | (with_reducible refine belowAlloc ?_) | (with_reducible refine Below.setCell ?_ (by first | omega | (simp; done) | (simp; omega)) _) | (with_reducible refine Below.drew ?_) | (with_reducible refine below_drewN ?_ _)))) hb
  have hzw2 := hBw.size
  clear hb
  go_wp2_with fail
  go_ret
  exact ⟨rfl, by (repeat' (first | (with_reducible exact Below.refl _ _) | (with_reducible assumption) | (with_reducible refine belowThru ?_ (by assumption)) | (with_reducible refine belowAlloc ?_) | (with_reducible refine Below.setCell ?_ (by first | omega | (simp; done) | (simp; omega)) _) | (with_reducible refine Below.drew ?_) | (with_reducible refine below_drewN ?_ _)))⟩
set_option maxRecDepth 100000 in
set_option maxHeartbeats 16000000 in
theorem tig_2 (a : Option Addr) (n c : Nat) (vs : List Vw) (X Z lo hi r1 r2 r3 r4 m1 m2 m3 m4 s1 s2 s3 s4 eR eC : Int) (w : World) (hn : n ≤ 11) (hC : (eC != 0) = true) (HR : Hid (VRow w a n vs)) (HAl : Hid (∀ w : World, Calls Try.prog 23 #[] w fun e w' => e = .returned (.bool true) ∧ Below w.heap.size w w')) (HX : Hid (∀ W : World, VRow W a n vs → Calls Try.prog 19 #[.slice a n c, .int .i64 X, .int .i64 Z] W fun e W' => e = .returned (.tuple #[.agg #[.int .i64 r1, .int .i64 r2, .int .i64 r3, .int .i64 r4], .int .i64 0]) ∧ Below W.heap.size W W')) (HV : Hid (∀ (b : Nat) (W : World), Blk W b #[.int .i64 X, .int .i64 Z, .int .i64 lo, .int .i64 hi] 45 → Calls Try.prog 30 #[.slice (some ⟨b, 0, none⟩) 1 1] W fun e W' => e = .returned (.int .i64 eC) ∧ Below W.heap.size W W')) :
    Calls Try.prog 9 #[.slice a n c, .agg #[.int .i64 X, .int .i64 Z, .int .i64 lo, .int .i64 hi]] w fun e w' => e = .returned (.bool true) ∧ Below w.heap.size w w' := by
  have hn1 : decide ((11 : Int) < (n : Int)) = false := by simp; omega
  go_enter Try.func9, Try.ntmps9
  go_wp2_with fail
  refine (HAl.out _).mono ?_
  rintro e w1 ⟨rfl, hb⟩
  have kn0 : Blk w1 (w.heap.size) #[.int .i64 X, .int .i64 Z, .int .i64 lo, .int .i64 hi] 45 := Blk.later hb (by (repeat' (first | (with_reducible assumption) | (with_reducible refine Blk.set2 ?_) | ((with_reducible refine Blk.new ?_); first | rfl | (simp; done)) | (with_reducible refine Blk.later (by assumption) ?_) | (with_reducible refine Blk.alloc ?_) | (with_reducible refine Blk.drewN ?_) | (with_reducible refine Blk.drew ?_) | (with_reducible refine Blk.other ?_ (by first | omega | (simp; done) | (simp; omega))))))
  have k0 := kn0; clear kn0; obtain ⟨a0, b0⟩ := k0.read; have y0 := k0.lt
  have hBw : Below w.heap.size w w1 := by (repeat' (first | (with_reducible exact Below.refl _ _) | (with_reducible assumption) | (with_reducible refine belowThru ?_ (by assumption)) | (with_reducible refine belowAlloc ?_) | (with_reducible refine Below.setCell ?_ (by first | omega | (simp; done) | (simp; omega)) _) | (with_reducible refine Below.drew ?_) | (with_reducible refine below_drewN ?_ _)))
  have hzw1 := hBw.size
  clear hb
  go_wp2_with fail
  refine (HX.out _ (HR.out.later (by (repeat' (first | (with_reducible exact Below.refl _ _) | (with_reducible assumption) | (with_reducible refine belowThru ?_ (by assumption)) | (with_reducible refine belowAlloc ?_) | (with_reducible refine Below.setCell ?_ (by first | omega | (simp; done) | (simp; omega)) _) | (with_reducible refine Below.drew ?_) | (with_reducible refine below_drewN ?_ _)))))).mono ?_
  rintro e w2 ⟨rfl, hb⟩
  have kn0 : Blk w2 (w.heap.size) #[.int .i64 X, .int .i64 Z, .int .i64 lo, .int .i64 hi] 45 := Blk.later hb (by (repeat' (first | (with_reducible assumption) | (with_reducible refine Blk.set2 ?_) | ((with_reducible refine Blk.new ?_); first | rfl | (simp; done)) | (with_reducible refine Blk.later (by assumption) ?_) | (with_reducible refine Blk.alloc ?_) | (with_reducible refine Blk.drewN ?_) | (with_reducible refine Blk.drew ?_) | (with_reducible refine Blk.other ?_ (by first | omega | (simp; done) | (simp; omega))))))
  clear k0 a0 b0 y0
  have k0 := kn0; clear kn0; obtain ⟨a0, b0⟩ := k0.read; have y0 := k0.lt
  replace hBw : Below w.heap.size w w2 := belowThru (by (repeat' (first | (with_reducible exact Below.refl _ _) | (with_reducible assumption) | (with_reducible refine belowThru ?_ (by assumption)) | (with_reducible refine belowAlloc ?_) | (with_reducible refine Below.setCell ?_ (by first | omega | (simp; done) | (simp; omega)) _) | (with_reducible refine Below.drew ?_) | (with_reducible refine below_drewN ?_ _)))) hb
  have hzw2 := hBw.size
  clear hb
  go_wp2_with fail
  refine (HV.out _ _ (by (repeat' (first | (with_reducible assumption) | ((with_reducible refine Blk.new ?_); first | rfl | (simp; done)) | (with_reducible refine Blk.later (by assumption) ?_) | (with_reducible refine Blk.alloc ?_) | (with_reducible refine Blk.drewN ?_) | (with_reducible refine Blk.drew ?_) | (with_reducible refine Blk.other ?_ (by first | omega | (simp; done) | (simp; omega))))))).mono ?_
  rintro e w3 ⟨rfl, hb⟩
  have kn0 : Blk w3 (w.heap.size) #[.int .i64 X, .int .i64 Z, .int .i64 lo, .int .i64 hi] 45 := Blk.later hb (by (repeat' (first | (with_reducible assumption) | (with_reducible refine Blk.set2 ?_) | ((with_reducible refine Blk.new ?_); first | rfl | (simp; done)) | (with_reducible refine Blk.later (by assumption) ?_) | (with_reducible refine Blk.alloc ?_) | (with_reducible refine Blk.drewN ?_) | (with_reducible refine Blk.drew ?_) | (with_reducible refine Blk.other ?_ (by first | omega | (simp; done) | (simp; omega))))))
  have kn1 : Blk w3 (w2.heap.size) #[.int .i64 r1, .int .i64 r2, .int .i64 r3, .int .i64 r4] 35 := Blk.later hb (by (repeat' (first | (with_reducible assumption) | (with_reducible refine Blk.set2 ?_) | ((with_reducible refine Blk.new ?_); first | rfl | (simp; done)) | (with_reducible refine Blk.later (by assumption) ?_) | (with_reducible refine Blk.alloc ?_) | (with_reducible refine Blk.drewN ?_) | (with_reducible refine Blk.drew ?_) | (with_reducible refine Blk.other ?_ (by first | omega | (simp; done) | (simp; omega))))))
  clear k0 a0 b0 y0
  have k0 := kn0; clear kn0; obtain ⟨a0, b0⟩ := k0.read; have y0 := k0.lt
  have k1 := kn1; clear kn1; obtain ⟨a1, b1⟩ := k1.read; have y1 := k1.lt
  replace hBw : Below w.heap.size w w3 := belowThru (by (repeat' (first | (with_reducible exact Below.refl _ _) | (with_reducible assumption) | (with_reducible refine belowThru ?_ (by assumption)) | (with_reducible refine belowAlloc ?_) | (with_reducible refine Below.setCell ?_ (by first | omega | (simp; done) | (simp; omega)) _) | (with_reducible refine Below.drew ?_) | (with_reducible refine below_drewN ?_ _)))) hb
  have hzw3 := hBw.size
  clear hb
  go_wp2_with fail
  go_ret
  exact ⟨rfl, by (repeat' (first | (with_reducible exact Below.refl _ _) | (with_reducible assumption) | (with_reducible refine belowThru ?_ (by assumption)) | (with_reducible refine belowAlloc ?_) | (with_reducible refine Below.setCell ?_ (by first | omega | (simp; done) | (simp; omega)) _) | (with_reducible refine Below.drew ?_) | (with_reducible refine below_drewN ?_ _)))⟩
/-- What holds of the region whichever operations have come up. -/
def Ti6 (X Z lo hi r1 r2 r3 r4 m1 m2 m3 m4 : Int) (w w2 Wp : World) (i54 i55 i56 i57 i58 i59 i60 i53 i61 i62 i11 i12 : Value) (b9 : Act) (L9 : Array Bool) (a9 : Act) (w9 : World) : Prop :=
  ∃ (gg0 gg1 gg2 gg3 gg4 gg5 gg6 gg7 gg8 gg9 gg10 gg11 gg12 : Bool) (x10 : Nat), L9 = #[gg0, gg1, gg2, gg3, gg4, gg5, gg6, gg7, gg8, gg9, gg10, gg11, gg12] ∧ a9 = ((((((((((((b9).put (some 54) (cond gg0 (.agg #[.int .i64 r1, .int .i64 r2, .int .i64 r3, .int .i64 r4]) (i54))).put (some 55) (cond gg1 (.pointer (some ⟨(w.heap.size), 2, none⟩)) (i55))).put (some 56) (cond gg2 (.int .i64 lo) (i56))).put (some 57) (cond gg3 (.pointer (some ⟨(w.heap.size), 3, none⟩)) (i57))).put (some 58) (cond gg4 (.int .i64 hi) (i58))).put (some 59) (cond gg5 (.agg #[.int .i64 lo, .int .i64 1, .int .i64 hi, .int .i64 1]) (i59))).put (some 60) (cond gg6 (.tuple #[.agg #[.int .i64 m1, .int .i64 m2, .int .i64 m3, .int .i64 m4], .int .i64 6]) (i60))).put (some 53) (cond gg7 (.tuple #[.agg #[.int .i64 m1, .int .i64 m2, .int .i64 m3, .int .i64 m4], .int .i64 6]) (i53))).put (some 61) (cond gg8 (.agg #[.int .i64 m1, .int .i64 m2, .int .i64 m3, .int .i64 m4]) (i61))).put (some 62) (cond gg9 (.int .i64 6) (i62))).put (some 11) (cond gg10 (.pointer (some ⟨x10, 0, none⟩)) (i11))).put (some 12) (cond gg12 (.int .i64 6) (i12)) ∧ Blk w9 (w.heap.size) #[.int .i64 X, .int .i64 Z, .int .i64 lo, .int .i64 hi] 45 ∧ Blk w9 (w2.heap.size) #[.int .i64 r1, .int .i64 r2, .int .i64 r3, .int .i64 r4] 35 ∧ Below Wp.heap.size Wp w9 ∧ Wp.heap.size ≤ w9.heap.size ∧ (gg10 = true → Blk w9 x10 (cond gg11 #[.int .i64 m1, .int .i64 m2, .int .i64 m3, .int .i64 m4] #[.int .i64 0, .int .i64 0, .int .i64 0, .int .i64 0]) 35 ∧ Wp.heap.size ≤ x10) ∧ (gg11 = true → gg10 = true)
set_option maxRecDepth 100000 in
set_option maxHeartbeats 16000000 in
theorem tig_3 (a : Option Addr) (n c : Nat) (vs : List Vw) (X Z lo hi r1 r2 r3 r4 m1 m2 m3 m4 s1 s2 s3 s4 eR eC : Int) (w : World) (hn : n ≤ 11) (hl : vs.length = n) (hq : ((n : Int) == -1) = false) (HR : Hid (VRow w a n vs)) (HAl : Hid (∀ w : World, Calls Try.prog 23 #[] w fun e w' => e = .returned (.bool true) ∧ Below w.heap.size w w')) (HX : Hid (∀ W : World, VRow W a n vs → Calls Try.prog 19 #[.slice a n c, .int .i64 X, .int .i64 Z] W fun e W' => e = .returned (.tuple #[.agg #[.int .i64 r1, .int .i64 r2, .int .i64 r3, .int .i64 r4], .int .i64 0]) ∧ Below W.heap.size W W')) (HV : Hid (∀ (b : Nat) (W : World), Blk W b #[.int .i64 X, .int .i64 Z, .int .i64 lo, .int .i64 hi] 45 → Calls Try.prog 30 #[.slice (some ⟨b, 0, none⟩) 1 1] W fun e W' => e = .returned (.int .i64 0) ∧ Below W.heap.size W W')) (HF : Hid (∀ (a2 : Option Addr) (c2 : Nat) (W : World), n + 1 ≤ c2 → VRow W a2 (n + 1) (vs ++ [(X, Z, lo, hi)]) → Calls Try.prog 22 #[.slice a2 ((n + 1 : Nat)) c2] W fun e W' => e = .returned (.tuple #[.int .i64 (n : Int), .int .i64 0]) ∧ Below W.heap.size W W')) (HS : Hid (∀ W : World, Calls Try.prog 24 #[.int .i64 lo, .int .i64 hi] W fun e W' => e = .returned (.agg #[.int .i64 lo, .int .i64 1, .int .i64 hi, .int .i64 1]) ∧ Below W.heap.size W W')) (HE : Hid (∀ W : World, Calls Try.prog 46 #[.agg #[.int .i64 r1, .int .i64 r2, .int .i64 r3, .int .i64 r4], .agg #[.int .i64 lo, .int .i64 1, .int .i64 hi, .int .i64 1]] W fun e W' => e = .returned (.tuple #[.agg #[.int .i64 m1, .int .i64 m2, .int .i64 m3, .int .i64 m4], .int .i64 6]) ∧ Below W.heap.size W W')) (HG : Hid (∀ (a2 : Option Addr) (c2 : Nat) (W : World), n + 1 ≤ c2 → VRow W a2 (n + 1) (vs ++ [(X, Z, lo, hi)]) → Calls Try.prog 19 #[.slice a2 ((n + 1 : Nat)) c2, .int .i64 X, .int .i64 Z] W fun e W' => e = .returned (.tuple #[.agg #[.int .i64 s1, .int .i64 s2, .int .i64 s3, .int .i64 s4], .int .i64 6]) ∧ Below W.heap.size W W')) :
    Calls Try.prog 9 #[.slice a n c, .agg #[.int .i64 X, .int .i64 Z, .int .i64 lo, .int .i64 hi]] w fun e w' => e = .returned (.bool true) ∧ Below w.heap.size w w' := by
  have HN := Lib.hid hn
  have HL := Lib.hid hl
  have hmx : Try.prog.follows .mixedOrders = true := by kernel_rfl
  have hn1 : decide ((11 : Int) < (n : Int)) = false := by simp; omega
  go_enter Try.func9, Try.ntmps9
  go_wp2_with fail
  refine (HAl.out _).mono ?_
  rintro e w1 ⟨rfl, hb⟩
  have kn0 : Blk w1 (w.heap.size) #[.int .i64 X, .int .i64 Z, .int .i64 lo, .int .i64 hi] 45 := Blk.later hb (by (repeat' (first | (with_reducible assumption) | (with_reducible refine Blk.set2 ?_) | ((with_reducible refine Blk.new ?_); first | rfl | (simp; done)) | (with_reducible refine Blk.later (by assumption) ?_) | (with_reducible refine Blk.alloc ?_) | (with_reducible refine Blk.drewN ?_) | (with_reducible refine Blk.drew ?_) | (with_reducible refine Blk.other ?_ (by first | omega | (simp; done) | (simp; omega))))))
  have k0 := kn0; clear kn0; obtain ⟨a0, b0⟩ := k0.read; have y0 := k0.lt
  have hBw : Below w.heap.size w w1 := by (repeat' (first | (with_reducible exact Below.refl _ _) | (with_reducible assumption) | (with_reducible refine belowThru ?_ (by assumption)) | (with_reducible refine belowAlloc ?_) | (with_reducible refine Below.setCell ?_ (by first | omega | (simp; done) | (simp; omega)) _) | (with_reducible refine Below.drew ?_) | (with_reducible refine below_drewN ?_ _)))
  have hzw1 := hBw.size
  clear hb
  go_wp2_with fail
  refine (HX.out _ (HR.out.later (by (repeat' (first | (with_reducible exact Below.refl _ _) | (with_reducible assumption) | (with_reducible refine belowThru ?_ (by assumption)) | (with_reducible refine belowAlloc ?_) | (with_reducible refine Below.setCell ?_ (by first | omega | (simp; done) | (simp; omega)) _) | (with_reducible refine Below.drew ?_) | (with_reducible refine below_drewN ?_ _)))))).mono ?_
  rintro e w2 ⟨rfl, hb⟩
  have kn0 : Blk w2 (w.heap.size) #[.int .i64 X, .int .i64 Z, .int .i64 lo, .int .i64 hi] 45 := Blk.later hb (by (repeat' (first | (with_reducible assumption) | (with_reducible refine Blk.set2 ?_) | ((with_reducible refine Blk.new ?_); first | rfl | (simp; done)) | (with_reducible refine Blk.later (by assumption) ?_) | (with_reducible refine Blk.alloc ?_) | (with_reducible refine Blk.drewN ?_) | (with_reducible refine Blk.drew ?_) | (with_reducible refine Blk.other ?_ (by first | omega | (simp; done) | (simp; omega))))))
  clear k0 a0 b0 y0
  have k0 := kn0; clear kn0; obtain ⟨a0, b0⟩ := k0.read; have y0 := k0.lt
  replace hBw : Below w.heap.size w w2 := belowThru (by (repeat' (first | (with_reducible exact Below.refl _ _) | (with_reducible assumption) | (with_reducible refine belowThru ?_ (by assumption)) | (with_reducible refine belowAlloc ?_) | (with_reducible refine Below.setCell ?_ (by first | omega | (simp; done) | (simp; omega)) _) | (with_reducible refine Below.drew ?_) | (with_reducible refine below_drewN ?_ _)))) hb
  have hzw2 := hBw.size
  clear hb
  go_wp2_with fail
  refine (HV.out _ _ (by (repeat' (first | (with_reducible assumption) | ((with_reducible refine Blk.new ?_); first | rfl | (simp; done)) | (with_reducible refine Blk.later (by assumption) ?_) | (with_reducible refine Blk.alloc ?_) | (with_reducible refine Blk.drewN ?_) | (with_reducible refine Blk.drew ?_) | (with_reducible refine Blk.other ?_ (by first | omega | (simp; done) | (simp; omega))))))).mono ?_
  rintro e w3 ⟨rfl, hb⟩
  have kn0 : Blk w3 (w.heap.size) #[.int .i64 X, .int .i64 Z, .int .i64 lo, .int .i64 hi] 45 := Blk.later hb (by (repeat' (first | (with_reducible assumption) | (with_reducible refine Blk.set2 ?_) | ((with_reducible refine Blk.new ?_); first | rfl | (simp; done)) | (with_reducible refine Blk.later (by assumption) ?_) | (with_reducible refine Blk.alloc ?_) | (with_reducible refine Blk.drewN ?_) | (with_reducible refine Blk.drew ?_) | (with_reducible refine Blk.other ?_ (by first | omega | (simp; done) | (simp; omega))))))
  have kn1 : Blk w3 (w2.heap.size) #[.int .i64 r1, .int .i64 r2, .int .i64 r3, .int .i64 r4] 35 := Blk.later hb (by (repeat' (first | (with_reducible assumption) | (with_reducible refine Blk.set2 ?_) | ((with_reducible refine Blk.new ?_); first | rfl | (simp; done)) | (with_reducible refine Blk.later (by assumption) ?_) | (with_reducible refine Blk.alloc ?_) | (with_reducible refine Blk.drewN ?_) | (with_reducible refine Blk.drew ?_) | (with_reducible refine Blk.other ?_ (by first | omega | (simp; done) | (simp; omega))))))
  clear k0 a0 b0 y0
  have k0 := kn0; clear kn0; obtain ⟨a0, b0⟩ := k0.read; have y0 := k0.lt
  have k1 := kn1; clear kn1; obtain ⟨a1, b1⟩ := k1.read; have y1 := k1.lt
  replace hBw : Below w.heap.size w w3 := belowThru (by (repeat' (first | (with_reducible exact Below.refl _ _) | (with_reducible assumption) | (with_reducible refine belowThru ?_ (by assumption)) | (with_reducible refine belowAlloc ?_) | (with_reducible refine Below.setCell ?_ (by first | omega | (simp; done) | (simp; omega)) _) | (with_reducible refine Below.drew ?_) | (with_reducible refine below_drewN ?_ _)))) hb
  have hzw3 := hBw.size
  clear hb
  go_wp2_with fail
  obtain ⟨Wp, rfl⟩ : ∃ Wp, Wp = w3 := ⟨_, rfl⟩
  clear a0 b0 y0; have y0 := k0.lt
  clear a1 b1 y1; have y1 := k1.lt
  have HRp : Hid (VRow Wp a n vs) := HR.out.later hBw
  go_cut [8] (fun s8 wx => (∃ (a2 : Option Addr) (c2 : Nat), s8 = .slice a2 ((n + 1 : Nat)) c2 ∧ n + 1 ≤ c2 ∧ VRow wx a2 (n + 1) (vs ++ [(X, Z, lo, hi)])) ∧ Below Wp.heap.size Wp wx)
  case first =>
    refine wp_region_held_drew (S := fun w' => (Blk w' (w.heap.size) #[.int .i64 X, .int .i64 Z, .int .i64 lo, .int .i64 hi] 45 ∧ (∀ i : Nat, w'.cell? ⟨w.heap.size, i, none⟩ = (#[.int .i64 X, .int .i64 Z, .int .i64 lo, .int .i64 hi] : Array Value)[i]?)) ∧ Below Wp.heap.size Wp w') hmx ⟨k0.drew.full, (Below.refl _ _).drew⟩ (fun hHeld => ?_)
    obtain ⟨Wd, hWd⟩ : ∃ Wd, Wp.drew = Wd := ⟨_, rfl⟩
    have hBd : Below Wp.heap.size Wp Wd := by rw [← hWd]; exact (Below.refl _ _).drew
    rw [hWd] at hHeld ⊢
    clear hWd
    have kv := k0; have hn := HN.out; have hl := HL.out
    have hsz := hBd.size
    clear k0 k1 y0 y1 hBw
    refine wpAnyH_take (i := 1) (v := ?_) rfl (by kernel_rfl) (by kernel_rfl) (by kernel_rfl) (fun _ _ _ h => h) (Or.inl ⟨by rfl, ?hT0⟩) (by assumption) ?_
    case hT0 => ((intro w hSw; (try dsimp only at hSw); go_simp); try (with_reducible rfl))
    try simp only [Act.put, List.setIfInBounds_toArray, List.set_cons_zero, List.set_cons_succ]
    refine wpAnyH_take (i := 3) (v := ?_) rfl (by kernel_rfl) (by kernel_rfl) (by kernel_rfl) (fun _ _ _ h => h) (Or.inl ⟨by rfl, ?hT1⟩) (by assumption) ?_
    case hT1 => ((intro w hSw; (try dsimp only at hSw); go_simp); try (with_reducible rfl))
    try simp only [Act.put, List.setIfInBounds_toArray, List.set_cons_zero, List.set_cons_succ]
    have hB0 := hBd
    refine wpAnyH_ready (rs := [0, 4]) (by kernel_rfl) (by simp) ?_
    refine AllReadyH.cons rfl (fun K hK => ?_) (AllReadyH.cons rfl (fun K hK => ?_) AllReadyH.nil)
    · skip
      go_simp
      have hBn : Below Wp.heap.size Wp (Wd.alloc (.cells #[] 45)) := belowAlloc hB0
      have o42 : Blk (Wd.alloc (.cells #[] 45)) Wd.heap.size #[] 45 := Blk.new rfl
      refine hK.out _ _ ?_ (fun hHeldN => ?_)
      · (try dsimp only); exact ⟨(Blk.later hBn kv).full, hBn⟩
      clear hK K hHeld
      have hHeld := hHeldN
      clear hHeldN
      try simp only [Act.put, List.setIfInBounds_toArray, List.set_cons_zero, List.set_cons_succ]
      obtain ⟨W1, hW1⟩ : ∃ z, Wd.alloc (.cells #[] 45) = z := ⟨_, rfl⟩
      have hsW1 : Wd.heap.size < W1.heap.size := by rw [← hW1, World.size_alloc]; omega
      rw [hW1] at hHeld hBn o42 ⊢
      clear hW1
      have hB1 := hBn; clear hBn
      refine wpAnyH_ready (rs := [2, 4]) (by kernel_rfl) (by simp) ?_
      refine AllReadyH.cons rfl (fun K hK => ?_) (AllReadyH.cons rfl (fun K hK => ?_) AllReadyH.nil)
      · skip
        rw [if_pos (by rfl)]
        refine wp_append_slot _ _ _ _ rfl _ _ rfl rfl (app_copy _ (Nat.le_refl _) o42 (HRp.out.later hB1) (by omega)) ?_
        rintro r W2 ⟨a1, c1, rfl, O1, hb1, hkp⟩
        have hBn : Below Wp.heap.size Wp W2 := Below.trans hB1 (hb1.mono (by omega))
        have hsW2 := hb1.size
        clear hb1 hkp o42
        refine hK.out _ _ ?_ (fun hHeldN => ?_)
        · (try dsimp only); exact ⟨(Blk.later hBn kv).full, hBn⟩
        clear hK K hHeld
        have hHeld := hHeldN
        clear hHeldN
        try simp only [Act.put, List.setIfInBounds_toArray, List.set_cons_zero, List.set_cons_succ]
        have hB2 := hBn; clear hBn
        refine wpAnyH_ready (rs := [4]) (by kernel_rfl) (by simp) ?_
        refine AllReadyH.cons rfl (fun K hK => ?_) AllReadyH.nil
        go_simp
        have hBn : Below Wp.heap.size Wp (W2.alloc (.cells #[.int .i64 X, .int .i64 Z, .int .i64 lo, .int .i64 hi] 45)) := belowAlloc hB2
        have x46 : Blk (W2.alloc (.cells #[.int .i64 X, .int .i64 Z, .int .i64 lo, .int .i64 hi] 45)) W2.heap.size #[.int .i64 X, .int .i64 Z, .int .i64 lo, .int .i64 hi] 45 := Blk.new rfl
        replace O1 := OwnV.later (belowAlloc (o := .cells #[.int .i64 X, .int .i64 Z, .int .i64 lo, .int .i64 hi] 45) (Below.refl _ _)) O1
        refine hK.out _ _ ?_ (fun hHeldN => ?_)
        · (try dsimp only); exact ⟨(Blk.later hBn kv).full, hBn⟩
        clear hK K hHeld
        have hHeld := hHeldN
        clear hHeldN
        try simp only [Act.put, List.setIfInBounds_toArray, List.set_cons_zero, List.set_cons_succ]
        obtain ⟨W3, hW3⟩ : ∃ z, W2.alloc (.cells #[.int .i64 X, .int .i64 Z, .int .i64 lo, .int .i64 hi] 45) = z := ⟨_, rfl⟩
        have hsW3 : W2.heap.size < W3.heap.size := by rw [← hW3, World.size_alloc]; omega
        rw [hW3] at hHeld hBn O1 x46 ⊢
        clear hW3
        have hB3 := hBn; clear hBn
        refine wpAnyH_ready (rs := [5]) (by kernel_rfl) (by simp) ?_
        refine AllReadyH.cons rfl (fun K hK => ?_) AllReadyH.nil
        rw [if_pos (by rfl)]
        refine wp_append_slot _ _ _ _ rfl _ _ rfl rfl (app_one _ hl (by omega) O1 x46 (by omega)) ?_
        rintro r W4 ⟨a2, c2, rfl, hc2, hR2, hb1⟩
        have hBn : Below Wp.heap.size Wp W4 := Below.trans hB3 (hb1.mono (by omega))
        clear hb1 O1 x46
        refine hK.out _ _ ?_ (fun hHeldN => ?_)
        · (try dsimp only); exact ⟨(Blk.later hBn kv).full, hBn⟩
        clear hK K hHeld
        have hHeld := hHeldN
        clear hHeldN
        try simp only [Act.put, List.setIfInBounds_toArray, List.set_cons_zero, List.set_cons_succ]
        refine wpAnyH_ready (rs := [6]) (by kernel_rfl) (by simp) ?_
        refine AllReadyH.cons rfl (fun K hK => ?_) AllReadyH.nil
        go_simp
        refine hK.out _ _ ?_ (fun hHeldN => ?_)
        · (try dsimp only); exact hHeld
        clear hK K hHeld
        have hHeld := hHeldN
        clear hHeldN
        try simp only [Act.put, List.setIfInBounds_toArray, List.set_cons_zero, List.set_cons_succ]
        refine wpAnyH_done (by kernel_rfl) ?_ _
        go_wp2_with fail
        go_meet
        exact ⟨⟨a2, c2, rfl, hc2, hR2⟩, hBn⟩
      · skip
        go_simp
        have hBn : Below Wp.heap.size Wp (W1.alloc (.cells #[.int .i64 X, .int .i64 Z, .int .i64 lo, .int .i64 hi] 45)) := belowAlloc hB1
        have x46 : Blk (W1.alloc (.cells #[.int .i64 X, .int .i64 Z, .int .i64 lo, .int .i64 hi] 45)) W1.heap.size #[.int .i64 X, .int .i64 Z, .int .i64 lo, .int .i64 hi] 45 := Blk.new rfl
        replace o42 := Blk.alloc (o := .cells #[.int .i64 X, .int .i64 Z, .int .i64 lo, .int .i64 hi] 45) o42
        refine hK.out _ _ ?_ (fun hHeldN => ?_)
        · (try dsimp only); exact ⟨(Blk.later hBn kv).full, hBn⟩
        clear hK K hHeld
        have hHeld := hHeldN
        clear hHeldN
        try simp only [Act.put, List.setIfInBounds_toArray, List.set_cons_zero, List.set_cons_succ]
        obtain ⟨W2, hW2⟩ : ∃ z, W1.alloc (.cells #[.int .i64 X, .int .i64 Z, .int .i64 lo, .int .i64 hi] 45) = z := ⟨_, rfl⟩
        have hsW2 : W1.heap.size < W2.heap.size := by rw [← hW2, World.size_alloc]; omega
        rw [hW2] at hHeld hBn o42 x46 ⊢
        clear hW2
        have hB2 := hBn; clear hBn
        refine wpAnyH_ready (rs := [2]) (by kernel_rfl) (by simp) ?_
        refine AllReadyH.cons rfl (fun K hK => ?_) AllReadyH.nil
        rw [if_pos (by rfl)]
        refine wp_append_slot _ _ _ _ rfl _ _ rfl rfl (app_copy _ (Nat.le_refl _) o42 (HRp.out.later hB2) (by omega)) ?_
        rintro r W3 ⟨a1, c1, rfl, O1, hb1, hkp⟩
        have hBn : Below Wp.heap.size Wp W3 := Below.trans hB2 (hb1.mono (by omega))
        replace x46 : Blk W3 _ #[.int .i64 X, .int .i64 Z, .int .i64 lo, .int .i64 hi] 45 := (hkp _ x46.lt (by omega)).trans x46
        have hsW3 := hb1.size
        clear hb1 hkp o42
        refine hK.out _ _ ?_ (fun hHeldN => ?_)
        · (try dsimp only); exact ⟨(Blk.later hBn kv).full, hBn⟩
        clear hK K hHeld
        have hHeld := hHeldN
        clear hHeldN
        try simp only [Act.put, List.setIfInBounds_toArray, List.set_cons_zero, List.set_cons_succ]
        have hB3 := hBn; clear hBn
        refine wpAnyH_ready (rs := [5]) (by kernel_rfl) (by simp) ?_
        refine AllReadyH.cons rfl (fun K hK => ?_) AllReadyH.nil
        rw [if_pos (by rfl)]
        refine wp_append_slot _ _ _ _ rfl _ _ rfl rfl (app_one _ hl (by omega) O1 x46 (by omega)) ?_
        rintro r W4 ⟨a2, c2, rfl, hc2, hR2, hb1⟩
        have hBn : Below Wp.heap.size Wp W4 := Below.trans hB3 (hb1.mono (by omega))
        clear hb1 O1 x46
        refine hK.out _ _ ?_ (fun hHeldN => ?_)
        · (try dsimp only); exact ⟨(Blk.later hBn kv).full, hBn⟩
        clear hK K hHeld
        have hHeld := hHeldN
        clear hHeldN
        try simp only [Act.put, List.setIfInBounds_toArray, List.set_cons_zero, List.set_cons_succ]
        refine wpAnyH_ready (rs := [6]) (by kernel_rfl) (by simp) ?_
        refine AllReadyH.cons rfl (fun K hK => ?_) AllReadyH.nil
        go_simp
        refine hK.out _ _ ?_ (fun hHeldN => ?_)
        · (try dsimp only); exact hHeld
        clear hK K hHeld
        have hHeld := hHeldN
        clear hHeldN
        try simp only [Act.put, List.setIfInBounds_toArray, List.set_cons_zero, List.set_cons_succ]
        refine wpAnyH_done (by kernel_rfl) ?_ _
        go_wp2_with fail
        go_meet
        exact ⟨⟨a2, c2, rfl, hc2, hR2⟩, hBn⟩
    · skip
      go_simp
      have hBn : Below Wp.heap.size Wp (Wd.alloc (.cells #[.int .i64 X, .int .i64 Z, .int .i64 lo, .int .i64 hi] 45)) := belowAlloc hB0
      have x46 : Blk (Wd.alloc (.cells #[.int .i64 X, .int .i64 Z, .int .i64 lo, .int .i64 hi] 45)) Wd.heap.size #[.int .i64 X, .int .i64 Z, .int .i64 lo, .int .i64 hi] 45 := Blk.new rfl
      refine hK.out _ _ ?_ (fun hHeldN => ?_)
      · (try dsimp only); exact ⟨(Blk.later hBn kv).full, hBn⟩
      clear hK K hHeld
      have hHeld := hHeldN
      clear hHeldN
      try simp only [Act.put, List.setIfInBounds_toArray, List.set_cons_zero, List.set_cons_succ]
      obtain ⟨W1, hW1⟩ : ∃ z, Wd.alloc (.cells #[.int .i64 X, .int .i64 Z, .int .i64 lo, .int .i64 hi] 45) = z := ⟨_, rfl⟩
      have hsW1 : Wd.heap.size < W1.heap.size := by rw [← hW1, World.size_alloc]; omega
      rw [hW1] at hHeld hBn x46 ⊢
      clear hW1
      have hB1 := hBn; clear hBn
      refine wpAnyH_ready (rs := [0]) (by kernel_rfl) (by simp) ?_
      refine AllReadyH.cons rfl (fun K hK => ?_) AllReadyH.nil
      go_simp
      have hBn : Below Wp.heap.size Wp (W1.alloc (.cells #[] 45)) := belowAlloc hB1
      have o42 : Blk (W1.alloc (.cells #[] 45)) W1.heap.size #[] 45 := Blk.new rfl
      replace x46 := Blk.alloc (o := .cells #[] 45) x46
      refine hK.out _ _ ?_ (fun hHeldN => ?_)
      · (try dsimp only); exact ⟨(Blk.later hBn kv).full, hBn⟩
      clear hK K hHeld
      have hHeld := hHeldN
      clear hHeldN
      try simp only [Act.put, List.setIfInBounds_toArray, List.set_cons_zero, List.set_cons_succ]
      obtain ⟨W2, hW2⟩ : ∃ z, W1.alloc (.cells #[] 45) = z := ⟨_, rfl⟩
      have hsW2 : W1.heap.size < W2.heap.size := by rw [← hW2, World.size_alloc]; omega
      rw [hW2] at hHeld hBn x46 o42 ⊢
      clear hW2
      have hB2 := hBn; clear hBn
      refine wpAnyH_ready (rs := [2]) (by kernel_rfl) (by simp) ?_
      refine AllReadyH.cons rfl (fun K hK => ?_) AllReadyH.nil
      rw [if_pos (by rfl)]
      refine wp_append_slot _ _ _ _ rfl _ _ rfl rfl (app_copy _ (Nat.le_refl _) o42 (HRp.out.later hB2) (by omega)) ?_
      rintro r W3 ⟨a1, c1, rfl, O1, hb1, hkp⟩
      have hBn : Below Wp.heap.size Wp W3 := Below.trans hB2 (hb1.mono (by omega))
      replace x46 : Blk W3 _ #[.int .i64 X, .int .i64 Z, .int .i64 lo, .int .i64 hi] 45 := (hkp _ x46.lt (by omega)).trans x46
      have hsW3 := hb1.size
      clear hb1 hkp o42
      refine hK.out _ _ ?_ (fun hHeldN => ?_)
      · (try dsimp only); exact ⟨(Blk.later hBn kv).full, hBn⟩
      clear hK K hHeld
      have hHeld := hHeldN
      clear hHeldN
      try simp only [Act.put, List.setIfInBounds_toArray, List.set_cons_zero, List.set_cons_succ]
      have hB3 := hBn; clear hBn
      refine wpAnyH_ready (rs := [5]) (by kernel_rfl) (by simp) ?_
      refine AllReadyH.cons rfl (fun K hK => ?_) AllReadyH.nil
      rw [if_pos (by rfl)]
      refine wp_append_slot _ _ _ _ rfl _ _ rfl rfl (app_one _ hl (by omega) O1 x46 (by omega)) ?_
      rintro r W4 ⟨a2, c2, rfl, hc2, hR2, hb1⟩
      have hBn : Below Wp.heap.size Wp W4 := Below.trans hB3 (hb1.mono (by omega))
      clear hb1 O1 x46
      refine hK.out _ _ ?_ (fun hHeldN => ?_)
      · (try dsimp only); exact ⟨(Blk.later hBn kv).full, hBn⟩
      clear hK K hHeld
      have hHeld := hHeldN
      clear hHeldN
      try simp only [Act.put, List.setIfInBounds_toArray, List.set_cons_zero, List.set_cons_succ]
      refine wpAnyH_ready (rs := [6]) (by kernel_rfl) (by simp) ?_
      refine AllReadyH.cons rfl (fun K hK => ?_) AllReadyH.nil
      go_simp
      refine hK.out _ _ ?_ (fun hHeldN => ?_)
      · (try dsimp only); exact hHeld
      clear hK K hHeld
      have hHeld := hHeldN
      clear hHeldN
      try simp only [Act.put, List.setIfInBounds_toArray, List.set_cons_zero, List.set_cons_succ]
      refine wpAnyH_done (by kernel_rfl) ?_ _
      go_wp2_with fail
      go_meet
      exact ⟨⟨a2, c2, rfl, hc2, hR2⟩, hBn⟩
  case rest =>
    obtain ⟨⟨a2, c2, rfl, hc2, hR2⟩, hb⟩ := hcut
    obtain ⟨wq, rfl⟩ : ∃ wq, wq = wc := ⟨_, rfl⟩
    replace k0 := Blk.later hb k0; clear y0; obtain ⟨a00, b00⟩ := k0.read; have y0 := k0.lt
    replace k1 := Blk.later hb k1; clear y1; obtain ⟨a10, b10⟩ := k1.read; have y1 := k1.lt
    replace hBw : Below w.heap.size w wq := belowThru hBw hb
    have hzq := hBw.size
    have HM := Lib.hid hR2; clear hb hR2 HRp
    have a0 := a00; have b0 := b00; clear a00 b00
    have a1 := a10; have b1 := b10; clear a10 b10
    go_wp2_with fail
    refine (HF.out _ _ _ hc2 (HM.out.later (by (repeat' (first | (with_reducible exact Below.refl _ _) | (with_reducible assumption) | (with_reducible refine belowThru ?_ (by assumption)) | (with_reducible refine belowAlloc ?_) | (with_reducible refine Below.setCell ?_ (by first | omega | (simp; done) | (simp; omega)) _) | (with_reducible refine Below.drew ?_) | (with_reducible refine below_drewN ?_ _)))))).mono ?_
    rintro e w4 ⟨rfl, hb⟩
    replace HM : Hid (VRow w4 a2 (n + 1) (vs ++ [(X, Z, lo, hi)])) := HM.out.later hb
    have kn0 : Blk w4 (w.heap.size) #[.int .i64 X, .int .i64 Z, .int .i64 lo, .int .i64 hi] 45 := Blk.later hb (by (repeat' (first | (with_reducible assumption) | (with_reducible refine Blk.set2 ?_) | ((with_reducible refine Blk.new ?_); first | rfl | (simp; done)) | (with_reducible refine Blk.later (by assumption) ?_) | (with_reducible refine Blk.alloc ?_) | (with_reducible refine Blk.drewN ?_) | (with_reducible refine Blk.drew ?_) | (with_reducible refine Blk.other ?_ (by first | omega | (simp; done) | (simp; omega))))))
    have kn1 : Blk w4 (w2.heap.size) #[.int .i64 r1, .int .i64 r2, .int .i64 r3, .int .i64 r4] 35 := Blk.later hb (by (repeat' (first | (with_reducible assumption) | (with_reducible refine Blk.set2 ?_) | ((with_reducible refine Blk.new ?_); first | rfl | (simp; done)) | (with_reducible refine Blk.later (by assumption) ?_) | (with_reducible refine Blk.alloc ?_) | (with_reducible refine Blk.drewN ?_) | (with_reducible refine Blk.drew ?_) | (with_reducible refine Blk.other ?_ (by first | omega | (simp; done) | (simp; omega))))))
    clear k0 a0 b0 y0
    clear k1 a1 b1 y1
    have k0 := kn0; clear kn0; obtain ⟨a0, b0⟩ := k0.read; have y0 := k0.lt
    have k1 := kn1; clear kn1; obtain ⟨a1, b1⟩ := k1.read; have y1 := k1.lt
    replace hBw : Below w.heap.size w w4 := belowThru (by (repeat' (first | (with_reducible exact Below.refl _ _) | (with_reducible assumption) | (with_reducible refine belowThru ?_ (by assumption)) | (with_reducible refine belowAlloc ?_) | (with_reducible refine Below.setCell ?_ (by first | omega | (simp; done) | (simp; omega)) _) | (with_reducible refine Below.drew ?_) | (with_reducible refine below_drewN ?_ _)))) hb
    have hzw4 := hBw.size
    clear hb
    go_wp2_with fail
    obtain ⟨Wp, rfl⟩ : ∃ Wp, Wp = w4 := ⟨_, rfl⟩
    clear a0 b0 y0; have y0 := k0.lt
    clear a1 b1 y1; have y1 := k1.lt
    have hS := HS; have hE := HE
    refine wp_region_inv (Ti6 X Z lo hi r1 r2 r3 r4 m1 m2 m3 m4 w w2 Wp ?i54 ?i55 ?i56 ?i57 ?i58 ?i59 ?i60 ?i53 ?i61 ?i62 ?i11 ?i12) (by kernel_rfl) (by kernel_rfl) ?hsz ?hst ?hstep ?hfin
    case hst =>
      unfold Ti6
      refine ⟨false, false, false, false, false, false, false, false, false, false, false, false, false, 0, rfl, ?_, ?_, ?_, ?_, ?_, ?_, ?_⟩
      · first | (simp only [Act.put, List.setIfInBounds_toArray, List.set_cons_zero, List.set_cons_succ, cond_false]; done) | (simp only [Act.put, List.setIfInBounds_toArray, List.set_cons_zero, List.set_cons_succ, cond_false]; rfl)
      all_goals (first | (intro h; cases h; done) | ((repeat' (first | (with_reducible assumption) | ((with_reducible refine Blk.new ?_); first | rfl | (simp; done)) | (with_reducible refine Blk.later (by assumption) ?_) | (with_reducible refine Blk.alloc ?_) | (with_reducible refine Blk.drewN ?_) | (with_reducible refine Blk.drew ?_) | (with_reducible refine Blk.other ?_ (by first | omega | (simp; done) | (simp; omega))))); done) | ((repeat' (first | (with_reducible exact Below.refl _ _) | (with_reducible assumption) | (with_reducible refine belowThru ?_ (by assumption)) | (with_reducible refine belowAlloc ?_) | (with_reducible refine Below.setCell ?_ (by first | omega | (simp; done) | (simp; omega)) _) | (with_reducible refine Below.drew ?_) | (with_reducible refine below_drewN ?_ _))); done) | (simp only [cond_false]; (repeat' (first | (with_reducible assumption) | ((with_reducible refine Blk.new ?_); first | rfl | (simp; done)) | (with_reducible refine Blk.later (by assumption) ?_) | (with_reducible refine Blk.alloc ?_) | (with_reducible refine Blk.drewN ?_) | (with_reducible refine Blk.drew ?_) | (with_reducible refine Blk.other ?_ (by first | omega | (simp; done) | (simp; omega))))); done) | (simp only [World.size_drew]; omega) | (simp only [World.size_drew] at *; omega) | (simp; done) | (simp; omega))
    case hsz =>
      intro L a w9 h
      obtain ⟨gg0, gg1, gg2, gg3, gg4, gg5, gg6, gg7, gg8, gg9, gg10, gg11, gg12, x10, rfl, -⟩ := h; rfl
    case hstep =>
      intro L a w9 hI i hi
      obtain ⟨gg0, gg1, gg2, gg3, gg4, gg5, gg6, gg7, gg8, gg9, gg10, gg11, gg12, x10, rfl, rfl, fb0, fb1, fB, fL, f10, s10⟩ := hI
      obtain ⟨hi1, hi2, o, ho, hall⟩ := inv_mem hi
      clear hi
      rcases i with _ | _ | _ | _ | _ | _ | _ | _ | _ | _ | _ | _ | _ | i
      · have ge0 : gg0 = false := hi2
        clear hall hi1 hi2
        subst ge0
        have ho2 := ho
        simp only [List.getElem?_toArray, List.getElem?_cons_zero, List.getElem?_cons_succ] at ho2
        have ho3 := Option.some.inj ho2; clear ho2; subst ho3
        obtain ⟨ba0, bb0⟩ := fb0.read; have bl0 := fb0.lt
        obtain ⟨ba1, bb1⟩ := fb1.read; have bl1 := fb1.lt
        simp only [Act.put, List.setIfInBounds_toArray, List.set_cons_zero, List.set_cons_succ]
        simp only [cond_true, cond_false]
        refine inv_op ho (by kernel_rfl) (fun K hK => ?_)
        clear ho
        go_simp
        refine hK.out _ _ ?_
        unfold Ti6
        refine ⟨true, gg1, gg2, gg3, gg4, gg5, gg6, gg7, gg8, gg9, gg10, gg11, gg12, x10, rfl, by simp only [Act.put, List.setIfInBounds_toArray, List.set_cons_zero, List.set_cons_succ, cond_true, cond_false, Bool.cond_self], ?_, ?_, ?_, ?_, ?_, ?_⟩
        · exact fb0
        · exact fb1
        · exact fB
        · exact fL
        · exact f10
        · exact s10
      · have ge1 : gg1 = false := hi2
        clear hall hi1 hi2
        subst ge1
        have ho2 := ho
        simp only [List.getElem?_toArray, List.getElem?_cons_zero, List.getElem?_cons_succ] at ho2
        have ho3 := Option.some.inj ho2; clear ho2; subst ho3
        obtain ⟨ba0, bb0⟩ := fb0.read; have bl0 := fb0.lt
        obtain ⟨ba1, bb1⟩ := fb1.read; have bl1 := fb1.lt
        simp only [Act.put, List.setIfInBounds_toArray, List.set_cons_zero, List.set_cons_succ]
        simp only [cond_true, cond_false]
        refine inv_op ho (by kernel_rfl) (fun K hK => ?_)
        clear ho
        go_simp
        refine hK.out _ _ ?_
        unfold Ti6
        refine ⟨gg0, true, gg2, gg3, gg4, gg5, gg6, gg7, gg8, gg9, gg10, gg11, gg12, x10, rfl, by simp only [Act.put, List.setIfInBounds_toArray, List.set_cons_zero, List.set_cons_succ, cond_true, cond_false, Bool.cond_self], ?_, ?_, ?_, ?_, ?_, ?_⟩
        · exact fb0
        · exact fb1
        · exact fB
        · exact fL
        · exact f10
        · exact s10
      · have ge2 : gg2 = false := hi2
        have ge1 : gg1 = true := inv_dep ho hall 1 (by kernel_rfl)
        clear hall hi1 hi2
        subst ge2 ge1
        have ho2 := ho
        simp only [List.getElem?_toArray, List.getElem?_cons_zero, List.getElem?_cons_succ] at ho2
        have ho3 := Option.some.inj ho2; clear ho2; subst ho3
        obtain ⟨ba0, bb0⟩ := fb0.read; have bl0 := fb0.lt
        obtain ⟨ba1, bb1⟩ := fb1.read; have bl1 := fb1.lt
        simp only [Act.put, List.setIfInBounds_toArray, List.set_cons_zero, List.set_cons_succ]
        simp only [cond_true, cond_false]
        refine inv_op ho (by kernel_rfl) (fun K hK => ?_)
        clear ho
        go_simp
        refine hK.out _ _ ?_
        unfold Ti6
        refine ⟨gg0, true, true, gg3, gg4, gg5, gg6, gg7, gg8, gg9, gg10, gg11, gg12, x10, rfl, by simp only [Act.put, List.setIfInBounds_toArray, List.set_cons_zero, List.set_cons_succ, cond_true, cond_false, Bool.cond_self], ?_, ?_, ?_, ?_, ?_, ?_⟩
        · exact fb0
        · exact fb1
        · exact fB
        · exact fL
        · exact f10
        · exact s10
      · have ge3 : gg3 = false := hi2
        clear hall hi1 hi2
        subst ge3
        have ho2 := ho
        simp only [List.getElem?_toArray, List.getElem?_cons_zero, List.getElem?_cons_succ] at ho2
        have ho3 := Option.some.inj ho2; clear ho2; subst ho3
        obtain ⟨ba0, bb0⟩ := fb0.read; have bl0 := fb0.lt
        obtain ⟨ba1, bb1⟩ := fb1.read; have bl1 := fb1.lt
        simp only [Act.put, List.setIfInBounds_toArray, List.set_cons_zero, List.set_cons_succ]
        simp only [cond_true, cond_false]
        refine inv_op ho (by kernel_rfl) (fun K hK => ?_)
        clear ho
        go_simp
        refine hK.out _ _ ?_
        unfold Ti6
        refine ⟨gg0, gg1, gg2, true, gg4, gg5, gg6, gg7, gg8, gg9, gg10, gg11, gg12, x10, rfl, by simp only [Act.put, List.setIfInBounds_toArray, List.set_cons_zero, List.set_cons_succ, cond_true, cond_false, Bool.cond_self], ?_, ?_, ?_, ?_, ?_, ?_⟩
        · exact fb0
        · exact fb1
        · exact fB
        · exact fL
        · exact f10
        · exact s10
      · have ge4 : gg4 = false := hi2
        have ge3 : gg3 = true := inv_dep ho hall 3 (by kernel_rfl)
        clear hall hi1 hi2
        subst ge4 ge3
        have ho2 := ho
        simp only [List.getElem?_toArray, List.getElem?_cons_zero, List.getElem?_cons_succ] at ho2
        have ho3 := Option.some.inj ho2; clear ho2; subst ho3
        obtain ⟨ba0, bb0⟩ := fb0.read; have bl0 := fb0.lt
        obtain ⟨ba1, bb1⟩ := fb1.read; have bl1 := fb1.lt
        simp only [Act.put, List.setIfInBounds_toArray, List.set_cons_zero, List.set_cons_succ]
        simp only [cond_true, cond_false]
        refine inv_op ho (by kernel_rfl) (fun K hK => ?_)
        clear ho
        go_simp
        refine hK.out _ _ ?_
        unfold Ti6
        refine ⟨gg0, gg1, gg2, true, true, gg5, gg6, gg7, gg8, gg9, gg10, gg11, gg12, x10, rfl, by simp only [Act.put, List.setIfInBounds_toArray, List.set_cons_zero, List.set_cons_succ, cond_true, cond_false, Bool.cond_self], ?_, ?_, ?_, ?_, ?_, ?_⟩
        · exact fb0
        · exact fb1
        · exact fB
        · exact fL
        · exact f10
        · exact s10
      · have ge5 : gg5 = false := hi2
        have ge2 : gg2 = true := inv_dep ho hall 2 (by kernel_rfl)
        have ge4 : gg4 = true := inv_dep ho hall 4 (by kernel_rfl)
        clear hall hi1 hi2
        subst ge5 ge2 ge4
        have ho2 := ho
        simp only [List.getElem?_toArray, List.getElem?_cons_zero, List.getElem?_cons_succ] at ho2
        have ho3 := Option.some.inj ho2; clear ho2; subst ho3
        obtain ⟨ba0, bb0⟩ := fb0.read; have bl0 := fb0.lt
        obtain ⟨ba1, bb1⟩ := fb1.read; have bl1 := fb1.lt
        simp only [Act.put, List.setIfInBounds_toArray, List.set_cons_zero, List.set_cons_succ]
        simp only [cond_true, cond_false]
        refine inv_op ho (by kernel_rfl) (fun K hK => ?_)
        clear ho
        go_simp
        go_at_call 24; (with_reducible refine (hS.out _).mono ?_); rintro e w8 ⟨rfl, hb⟩
        refine hK.out _ _ ?_
        unfold Ti6
        refine ⟨gg0, gg1, true, gg3, true, true, gg6, gg7, gg8, gg9, gg10, gg11, gg12, x10, rfl, by simp only [Act.put, List.setIfInBounds_toArray, List.set_cons_zero, List.set_cons_succ, cond_true, cond_false, Bool.cond_self], ?_, ?_, ?_, ?_, ?_, ?_⟩
        · exact Blk.later hb fb0
        · exact Blk.later hb fb1
        · exact belowThru fB hb
        · have := hb.size; omega
        · intro h; obtain ⟨p, q⟩ := f10 h; exact ⟨Blk.later hb p, q⟩
        · exact s10
      · have ge6 : gg6 = false := hi2
        have ge0 : gg0 = true := inv_dep ho hall 0 (by kernel_rfl)
        have ge5 : gg5 = true := inv_dep ho hall 5 (by kernel_rfl)
        clear hall hi1 hi2
        subst ge6 ge0 ge5
        have ho2 := ho
        simp only [List.getElem?_toArray, List.getElem?_cons_zero, List.getElem?_cons_succ] at ho2
        have ho3 := Option.some.inj ho2; clear ho2; subst ho3
        obtain ⟨ba0, bb0⟩ := fb0.read; have bl0 := fb0.lt
        obtain ⟨ba1, bb1⟩ := fb1.read; have bl1 := fb1.lt
        simp only [Act.put, List.setIfInBounds_toArray, List.set_cons_zero, List.set_cons_succ]
        simp only [cond_true, cond_false]
        refine inv_op ho (by kernel_rfl) (fun K hK => ?_)
        clear ho
        go_simp
        go_at_call 46; (with_reducible refine (hE.out _).mono ?_); rintro e w8 ⟨rfl, hb⟩
        refine hK.out _ _ ?_
        unfold Ti6
        refine ⟨true, gg1, gg2, gg3, gg4, true, true, gg7, gg8, gg9, gg10, gg11, gg12, x10, rfl, by simp only [Act.put, List.setIfInBounds_toArray, List.set_cons_zero, List.set_cons_succ, cond_true, cond_false, Bool.cond_self], ?_, ?_, ?_, ?_, ?_, ?_⟩
        · exact Blk.later hb fb0
        · exact Blk.later hb fb1
        · exact belowThru fB hb
        · have := hb.size; omega
        · intro h; obtain ⟨p, q⟩ := f10 h; exact ⟨Blk.later hb p, q⟩
        · exact s10
      · have ge7 : gg7 = false := hi2
        have ge6 : gg6 = true := inv_dep ho hall 6 (by kernel_rfl)
        clear hall hi1 hi2
        subst ge7 ge6
        have ho2 := ho
        simp only [List.getElem?_toArray, List.getElem?_cons_zero, List.getElem?_cons_succ] at ho2
        have ho3 := Option.some.inj ho2; clear ho2; subst ho3
        obtain ⟨ba0, bb0⟩ := fb0.read; have bl0 := fb0.lt
        obtain ⟨ba1, bb1⟩ := fb1.read; have bl1 := fb1.lt
        simp only [Act.put, List.setIfInBounds_toArray, List.set_cons_zero, List.set_cons_succ]
        simp only [cond_true, cond_false]
        refine inv_op ho (by kernel_rfl) (fun K hK => ?_)
        clear ho
        go_simp
        refine hK.out _ _ ?_
        unfold Ti6
        refine ⟨gg0, gg1, gg2, gg3, gg4, gg5, true, true, gg8, gg9, gg10, gg11, gg12, x10, rfl, by simp only [Act.put, List.setIfInBounds_toArray, List.set_cons_zero, List.set_cons_succ, cond_true, cond_false, Bool.cond_self], ?_, ?_, ?_, ?_, ?_, ?_⟩
        · exact fb0
        · exact fb1
        · exact fB
        · exact fL
        · exact f10
        · exact s10
      · have ge8 : gg8 = false := hi2
        have ge7 : gg7 = true := inv_dep ho hall 7 (by kernel_rfl)
        clear hall hi1 hi2
        subst ge8 ge7
        have ho2 := ho
        simp only [List.getElem?_toArray, List.getElem?_cons_zero, List.getElem?_cons_succ] at ho2
        have ho3 := Option.some.inj ho2; clear ho2; subst ho3
        obtain ⟨ba0, bb0⟩ := fb0.read; have bl0 := fb0.lt
        obtain ⟨ba1, bb1⟩ := fb1.read; have bl1 := fb1.lt
        simp only [Act.put, List.setIfInBounds_toArray, List.set_cons_zero, List.set_cons_succ]
        simp only [cond_true, cond_false]
        refine inv_op ho (by kernel_rfl) (fun K hK => ?_)
        clear ho
        go_simp
        refine hK.out _ _ ?_
        unfold Ti6
        refine ⟨gg0, gg1, gg2, gg3, gg4, gg5, gg6, true, true, gg9, gg10, gg11, gg12, x10, rfl, by simp only [Act.put, List.setIfInBounds_toArray, List.set_cons_zero, List.set_cons_succ, cond_true, cond_false, Bool.cond_self], ?_, ?_, ?_, ?_, ?_, ?_⟩
        · exact fb0
        · exact fb1
        · exact fB
        · exact fL
        · exact f10
        · exact s10
      · have ge9 : gg9 = false := hi2
        have ge7 : gg7 = true := inv_dep ho hall 7 (by kernel_rfl)
        clear hall hi1 hi2
        subst ge9 ge7
        have ho2 := ho
        simp only [List.getElem?_toArray, List.getElem?_cons_zero, List.getElem?_cons_succ] at ho2
        have ho3 := Option.some.inj ho2; clear ho2; subst ho3
        obtain ⟨ba0, bb0⟩ := fb0.read; have bl0 := fb0.lt
        obtain ⟨ba1, bb1⟩ := fb1.read; have bl1 := fb1.lt
        simp only [Act.put, List.setIfInBounds_toArray, List.set_cons_zero, List.set_cons_succ]
        simp only [cond_true, cond_false]
        refine inv_op ho (by kernel_rfl) (fun K hK => ?_)
        clear ho
        go_simp
        refine hK.out _ _ ?_
        unfold Ti6
        refine ⟨gg0, gg1, gg2, gg3, gg4, gg5, gg6, true, gg8, true, gg10, gg11, gg12, x10, rfl, by simp only [Act.put, List.setIfInBounds_toArray, List.set_cons_zero, List.set_cons_succ, cond_true, cond_false, Bool.cond_self], ?_, ?_, ?_, ?_, ?_, ?_⟩
        · exact fb0
        · exact fb1
        · exact fB
        · exact fL
        · exact f10
        · exact s10
      · have ge10 : gg10 = false := hi2
        clear hall hi1 hi2
        subst ge10
        have ho2 := ho
        simp only [List.getElem?_toArray, List.getElem?_cons_zero, List.getElem?_cons_succ] at ho2
        have ho3 := Option.some.inj ho2; clear ho2; subst ho3
        obtain ⟨ba0, bb0⟩ := fb0.read; have bl0 := fb0.lt
        obtain ⟨ba1, bb1⟩ := fb1.read; have bl1 := fb1.lt
        obtain rfl : gg11 = false := by cases gg11; rfl; exact Bool.noConfusion (s10 rfl)
        simp only [Act.put, List.setIfInBounds_toArray, List.set_cons_zero, List.set_cons_succ]
        simp only [cond_true, cond_false]
        refine inv_op ho (by kernel_rfl) (fun K hK => ?_)
        clear ho
        go_simp
        refine hK.out _ _ ?_
        unfold Ti6
        refine ⟨gg0, gg1, gg2, gg3, gg4, gg5, gg6, gg7, gg8, gg9, true, false, gg12, w9.heap.size, rfl, by simp only [Act.put, List.setIfInBounds_toArray, List.set_cons_zero, List.set_cons_succ, cond_true, cond_false, Bool.cond_self], ?_, ?_, ?_, ?_, ?_, ?_⟩
        · exact fb0.alloc
        · exact fb1.alloc
        · exact belowAlloc fB
        · simp only [World.size_alloc]; omega
        · intro _; exact ⟨Blk.new rfl, fL⟩
        · intro _; rfl
      · have ge11 : gg11 = false := hi2
        have ge8 : gg8 = true := inv_dep ho hall 8 (by kernel_rfl)
        have ge10 : gg10 = true := inv_dep ho hall 10 (by kernel_rfl)
        clear hall hi1 hi2
        subst ge11 ge8 ge10
        have ho2 := ho
        simp only [List.getElem?_toArray, List.getElem?_cons_zero, List.getElem?_cons_succ] at ho2
        have ho3 := Option.some.inj ho2; clear ho2; subst ho3
        obtain ⟨p10, q10⟩ := f10 rfl
        obtain ⟨ra10, rb10⟩ := p10.read
        have rl10 := p10.lt
        obtain ⟨ba0, bb0⟩ := fb0.read; have bl0 := fb0.lt
        obtain ⟨ba1, bb1⟩ := fb1.read; have bl1 := fb1.lt
        have rl10 := p10.lt
        skip
        simp only [Act.put, List.setIfInBounds_toArray, List.set_cons_zero, List.set_cons_succ]
        simp only [cond_true, cond_false]
        refine inv_op ho (by kernel_rfl) (fun K hK => ?_)
        clear ho
        go_simp
        refine hK.out _ _ ?_
        unfold Ti6
        refine ⟨gg0, gg1, gg2, gg3, gg4, gg5, gg6, gg7, true, gg9, true, true, gg12, x10, rfl, by simp only [Act.put, List.setIfInBounds_toArray, List.set_cons_zero, List.set_cons_succ, cond_true, cond_false, Bool.cond_self], ?_, ?_, ?_, ?_, ?_, ?_⟩
        · (repeat' (first | (with_reducible assumption) | ((with_reducible refine Blk.new ?_); first | rfl | (simp; done)) | (with_reducible refine Blk.later (by assumption) ?_) | (with_reducible refine Blk.alloc ?_) | (with_reducible refine Blk.drewN ?_) | (with_reducible refine Blk.drew ?_) | (with_reducible refine Blk.other ?_ (by first | omega | (simp; done) | (simp; omega)))))
        · (repeat' (first | (with_reducible assumption) | ((with_reducible refine Blk.new ?_); first | rfl | (simp; done)) | (with_reducible refine Blk.later (by assumption) ?_) | (with_reducible refine Blk.alloc ?_) | (with_reducible refine Blk.drewN ?_) | (with_reducible refine Blk.drew ?_) | (with_reducible refine Blk.other ?_ (by first | omega | (simp; done) | (simp; omega)))))
        · (repeat' (first | (with_reducible exact Below.refl _ _) | (with_reducible assumption) | (with_reducible refine belowThru ?_ (by assumption)) | (with_reducible refine belowAlloc ?_) | (with_reducible refine Below.setCell ?_ (by first | omega | (simp; done) | (simp; omega)) _) | (with_reducible refine Below.drew ?_) | (with_reducible refine below_drewN ?_ _)))
        · first | exact fL | (simp; omega)
        · intro _; exact ⟨by exact Blk.set (Blk.set (Blk.set (Blk.set (p10)))), q10⟩
        · intro _; rfl
      · have ge12 : gg12 = false := hi2
        have ge9 : gg9 = true := inv_dep ho hall 9 (by kernel_rfl)
        clear hall hi1 hi2
        subst ge12 ge9
        have ho2 := ho
        simp only [List.getElem?_toArray, List.getElem?_cons_zero, List.getElem?_cons_succ] at ho2
        have ho3 := Option.some.inj ho2; clear ho2; subst ho3
        obtain ⟨ba0, bb0⟩ := fb0.read; have bl0 := fb0.lt
        obtain ⟨ba1, bb1⟩ := fb1.read; have bl1 := fb1.lt
        simp only [Act.put, List.setIfInBounds_toArray, List.set_cons_zero, List.set_cons_succ]
        simp only [cond_true, cond_false]
        refine inv_op ho (by kernel_rfl) (fun K hK => ?_)
        clear ho
        go_simp
        refine hK.out _ _ ?_
        unfold Ti6
        refine ⟨gg0, gg1, gg2, gg3, gg4, gg5, gg6, gg7, gg8, true, gg10, gg11, true, x10, rfl, by simp only [Act.put, List.setIfInBounds_toArray, List.set_cons_zero, List.set_cons_succ, cond_true, cond_false, Bool.cond_self], ?_, ?_, ?_, ?_, ?_, ?_⟩
        · exact fb0
        · exact fb1
        · exact fB
        · exact fL
        · exact f10
        · exact s10
      · exfalso; simp at hi1; omega
    case hfin =>
      intro a w9 hI
      obtain ⟨gg0, gg1, gg2, gg3, gg4, gg5, gg6, gg7, gg8, gg9, gg10, gg11, gg12, x10, hL, rfl, fb0, fb1, fB, fL, f10, s10⟩ := hI
      have hL2 : #[true, true, true, true, true, true, true, true, true, true, true, true, true] = #[gg0, gg1, gg2, gg3, gg4, gg5, gg6, gg7, gg8, gg9, gg10, gg11, gg12] := hL
      cases hL2
      obtain ⟨p10, q10⟩ := f10 rfl
      clear f10 s10
      simp only [Act.put, List.setIfInBounds_toArray, List.set_cons_zero, List.set_cons_succ]
      simp only [cond_true]
      obtain ⟨Wq, rfl⟩ : ∃ z, z = w9 := ⟨_, rfl⟩
      have k0 := fb0; have k1 := fb1; have k2 : Blk Wq x10 #[.int .i64 m1, .int .i64 m2, .int .i64 m3, .int .i64 m4] 35 := p10
      have hBw : Below w.heap.size w Wq := belowThru hBw (by (repeat' (first | (with_reducible exact Below.refl _ _) | (with_reducible assumption) | (with_reducible refine belowThru ?_ (by assumption)) | (with_reducible refine belowAlloc ?_) | (with_reducible refine Below.setCell ?_ (by first | omega | (simp; done) | (simp; omega)) _) | (with_reducible refine Below.drew ?_) | (with_reducible refine below_drewN ?_ _))))
      replace HM : Hid (VRow Wq a2 (n + 1) (vs ++ [(X, Z, lo, hi)])) := HM.out.later (by (repeat' (first | (with_reducible exact Below.refl _ _) | (with_reducible assumption) | (with_reducible refine belowThru ?_ (by assumption)) | (with_reducible refine belowAlloc ?_) | (with_reducible refine Below.setCell ?_ (by first | omega | (simp; done) | (simp; omega)) _) | (with_reducible refine Below.drew ?_) | (with_reducible refine below_drewN ?_ _))))
      obtain ⟨a0, b0⟩ := k0.read; have y0 := k0.lt
      obtain ⟨a1, b1⟩ := k1.read; have y1 := k1.lt
      obtain ⟨a2, b2⟩ := k2.read; have y2 := k2.lt
      clear fb0 fb1 p10 fB
      go_wp2_with fail
      refine (HG.out _ _ _ hc2 (HM.out.later (by (repeat' (first | (with_reducible exact Below.refl _ _) | (with_reducible assumption) | (with_reducible refine belowThru ?_ (by assumption)) | (with_reducible refine belowAlloc ?_) | (with_reducible refine Below.setCell ?_ (by first | omega | (simp; done) | (simp; omega)) _) | (with_reducible refine Below.drew ?_) | (with_reducible refine below_drewN ?_ _)))))).mono ?_
      rintro e w21 ⟨rfl, hb⟩
      have kn0 : Blk w21 (w.heap.size) #[.int .i64 X, .int .i64 Z, .int .i64 lo, .int .i64 hi] 45 := Blk.later hb (by (repeat' (first | (with_reducible assumption) | (with_reducible refine Blk.set2 ?_) | ((with_reducible refine Blk.new ?_); first | rfl | (simp; done)) | (with_reducible refine Blk.later (by assumption) ?_) | (with_reducible refine Blk.alloc ?_) | (with_reducible refine Blk.drewN ?_) | (with_reducible refine Blk.drew ?_) | (with_reducible refine Blk.other ?_ (by first | omega | (simp; done) | (simp; omega))))))
      have kn1 : Blk w21 (w2.heap.size) #[.int .i64 r1, .int .i64 r2, .int .i64 r3, .int .i64 r4] 35 := Blk.later hb (by (repeat' (first | (with_reducible assumption) | (with_reducible refine Blk.set2 ?_) | ((with_reducible refine Blk.new ?_); first | rfl | (simp; done)) | (with_reducible refine Blk.later (by assumption) ?_) | (with_reducible refine Blk.alloc ?_) | (with_reducible refine Blk.drewN ?_) | (with_reducible refine Blk.drew ?_) | (with_reducible refine Blk.other ?_ (by first | omega | (simp; done) | (simp; omega))))))
      have kn2 : Blk w21 (x10) #[.int .i64 m1, .int .i64 m2, .int .i64 m3, .int .i64 m4] 35 := Blk.later hb (by (repeat' (first | (with_reducible assumption) | (with_reducible refine Blk.set2 ?_) | ((with_reducible refine Blk.new ?_); first | rfl | (simp; done)) | (with_reducible refine Blk.later (by assumption) ?_) | (with_reducible refine Blk.alloc ?_) | (with_reducible refine Blk.drewN ?_) | (with_reducible refine Blk.drew ?_) | (with_reducible refine Blk.other ?_ (by first | omega | (simp; done) | (simp; omega))))))
      clear k0 a0 b0 y0
      clear k1 a1 b1 y1
      clear k2 a2 b2 y2
      have k0 := kn0; clear kn0; obtain ⟨a0, b0⟩ := k0.read; have y0 := k0.lt
      have k1 := kn1; clear kn1; obtain ⟨a1, b1⟩ := k1.read; have y1 := k1.lt
      have k2 := kn2; clear kn2; obtain ⟨a2, b2⟩ := k2.read; have y2 := k2.lt
      replace hBw : Below w.heap.size w w21 := belowThru (by (repeat' (first | (with_reducible exact Below.refl _ _) | (with_reducible assumption) | (with_reducible refine belowThru ?_ (by assumption)) | (with_reducible refine belowAlloc ?_) | (with_reducible refine Below.setCell ?_ (by first | omega | (simp; done) | (simp; omega)) _) | (with_reducible refine Below.drew ?_) | (with_reducible refine below_drewN ?_ _)))) hb
      have hzw21 := hBw.size
      clear hb
      go_wp2_with fail
      go_ret
      exact ⟨rfl, by (repeat' (first | (with_reducible exact Below.refl _ _) | (with_reducible assumption) | (with_reducible refine belowThru ?_ (by assumption)) | (with_reducible refine belowAlloc ?_) | (with_reducible refine Below.setCell ?_ (by first | omega | (simp; done) | (simp; omega)) _) | (with_reducible refine Below.drew ?_) | (with_reducible refine below_drewN ?_ _)))⟩
/-- What holds of the region whichever operations have come up. -/
def Ti0 (X Z lo hi r1 r2 r3 r4 m1 m2 m3 m4 : Int) (w w2 Wp : World) (i54 i55 i56 i57 i58 i59 i60 i53 i61 i62 i11 i12 : Value) (b9 : Act) (L9 : Array Bool) (a9 : Act) (w9 : World) : Prop :=
  ∃ (gg0 gg1 gg2 gg3 gg4 gg5 gg6 gg7 gg8 gg9 gg10 gg11 gg12 : Bool) (x10 : Nat), L9 = #[gg0, gg1, gg2, gg3, gg4, gg5, gg6, gg7, gg8, gg9, gg10, gg11, gg12] ∧ a9 = ((((((((((((b9).put (some 54) (cond gg0 (.agg #[.int .i64 r1, .int .i64 r2, .int .i64 r3, .int .i64 r4]) (i54))).put (some 55) (cond gg1 (.pointer (some ⟨(w.heap.size), 2, none⟩)) (i55))).put (some 56) (cond gg2 (.int .i64 lo) (i56))).put (some 57) (cond gg3 (.pointer (some ⟨(w.heap.size), 3, none⟩)) (i57))).put (some 58) (cond gg4 (.int .i64 hi) (i58))).put (some 59) (cond gg5 (.agg #[.int .i64 lo, .int .i64 1, .int .i64 hi, .int .i64 1]) (i59))).put (some 60) (cond gg6 (.tuple #[.agg #[.int .i64 m1, .int .i64 m2, .int .i64 m3, .int .i64 m4], .int .i64 0]) (i60))).put (some 53) (cond gg7 (.tuple #[.agg #[.int .i64 m1, .int .i64 m2, .int .i64 m3, .int .i64 m4], .int .i64 0]) (i53))).put (some 61) (cond gg8 (.agg #[.int .i64 m1, .int .i64 m2, .int .i64 m3, .int .i64 m4]) (i61))).put (some 62) (cond gg9 (.int .i64 0) (i62))).put (some 11) (cond gg10 (.pointer (some ⟨x10, 0, none⟩)) (i11))).put (some 12) (cond gg12 (.int .i64 0) (i12)) ∧ Blk w9 (w.heap.size) #[.int .i64 X, .int .i64 Z, .int .i64 lo, .int .i64 hi] 45 ∧ Blk w9 (w2.heap.size) #[.int .i64 r1, .int .i64 r2, .int .i64 r3, .int .i64 r4] 35 ∧ Below Wp.heap.size Wp w9 ∧ Wp.heap.size ≤ w9.heap.size ∧ (gg10 = true → Blk w9 x10 (cond gg11 #[.int .i64 m1, .int .i64 m2, .int .i64 m3, .int .i64 m4] #[.int .i64 0, .int .i64 0, .int .i64 0, .int .i64 0]) 35 ∧ Wp.heap.size ≤ x10) ∧ (gg11 = true → gg10 = true)
set_option maxRecDepth 100000 in
set_option maxHeartbeats 16000000 in
theorem tig_4 (a : Option Addr) (n c : Nat) (vs : List Vw) (X Z lo hi r1 r2 r3 r4 m1 m2 m3 m4 s1 s2 s3 s4 eR eC : Int) (w : World) (hn : n ≤ 11) (hl : vs.length = n) (hq : ((-1 : Int) == (n : Int)) = false) (HR : Hid (VRow w a n vs)) (HAl : Hid (∀ w : World, Calls Try.prog 23 #[] w fun e w' => e = .returned (.bool true) ∧ Below w.heap.size w w')) (HX : Hid (∀ W : World, VRow W a n vs → Calls Try.prog 19 #[.slice a n c, .int .i64 X, .int .i64 Z] W fun e W' => e = .returned (.tuple #[.agg #[.int .i64 r1, .int .i64 r2, .int .i64 r3, .int .i64 r4], .int .i64 0]) ∧ Below W.heap.size W W')) (HV : Hid (∀ (b : Nat) (W : World), Blk W b #[.int .i64 X, .int .i64 Z, .int .i64 lo, .int .i64 hi] 45 → Calls Try.prog 30 #[.slice (some ⟨b, 0, none⟩) 1 1] W fun e W' => e = .returned (.int .i64 0) ∧ Below W.heap.size W W')) (HF : Hid (∀ (a2 : Option Addr) (c2 : Nat) (W : World), n + 1 ≤ c2 → VRow W a2 (n + 1) (vs ++ [(X, Z, lo, hi)]) → Calls Try.prog 22 #[.slice a2 ((n + 1 : Nat)) c2] W fun e W' => e = .returned (.tuple #[.int .i64 (-1), .int .i64 0]) ∧ Below W.heap.size W W')) (HS : Hid (∀ W : World, Calls Try.prog 24 #[.int .i64 lo, .int .i64 hi] W fun e W' => e = .returned (.agg #[.int .i64 lo, .int .i64 1, .int .i64 hi, .int .i64 1]) ∧ Below W.heap.size W W')) (HE : Hid (∀ W : World, Calls Try.prog 46 #[.agg #[.int .i64 r1, .int .i64 r2, .int .i64 r3, .int .i64 r4], .agg #[.int .i64 lo, .int .i64 1, .int .i64 hi, .int .i64 1]] W fun e W' => e = .returned (.tuple #[.agg #[.int .i64 m1, .int .i64 m2, .int .i64 m3, .int .i64 m4], .int .i64 0]) ∧ Below W.heap.size W W')) (HG : Hid (∀ (a2 : Option Addr) (c2 : Nat) (W : World), n + 1 ≤ c2 → VRow W a2 (n + 1) (vs ++ [(X, Z, lo, hi)]) → Calls Try.prog 19 #[.slice a2 ((n + 1 : Nat)) c2, .int .i64 X, .int .i64 Z] W fun e W' => e = .returned (.tuple #[.agg #[.int .i64 m1, .int .i64 m2, .int .i64 m3, .int .i64 m4], .int .i64 0]) ∧ Below W.heap.size W W')) :
    Calls Try.prog 9 #[.slice a n c, .agg #[.int .i64 X, .int .i64 Z, .int .i64 lo, .int .i64 hi]] w fun e w' => e = .returned (.bool true) ∧ Below w.heap.size w w' := by
  have HN := Lib.hid hn
  have HL := Lib.hid hl
  have hmx : Try.prog.follows .mixedOrders = true := by kernel_rfl
  have hn1 : decide ((11 : Int) < (n : Int)) = false := by simp; omega
  go_enter Try.func9, Try.ntmps9
  go_wp2_with fail
  refine (HAl.out _).mono ?_
  rintro e w1 ⟨rfl, hb⟩
  have kn0 : Blk w1 (w.heap.size) #[.int .i64 X, .int .i64 Z, .int .i64 lo, .int .i64 hi] 45 := Blk.later hb (by (repeat' (first | (with_reducible assumption) | (with_reducible refine Blk.set2 ?_) | ((with_reducible refine Blk.new ?_); first | rfl | (simp; done)) | (with_reducible refine Blk.later (by assumption) ?_) | (with_reducible refine Blk.alloc ?_) | (with_reducible refine Blk.drewN ?_) | (with_reducible refine Blk.drew ?_) | (with_reducible refine Blk.other ?_ (by first | omega | (simp; done) | (simp; omega))))))
  have k0 := kn0; clear kn0; obtain ⟨a0, b0⟩ := k0.read; have y0 := k0.lt
  have hBw : Below w.heap.size w w1 := by (repeat' (first | (with_reducible exact Below.refl _ _) | (with_reducible assumption) | (with_reducible refine belowThru ?_ (by assumption)) | (with_reducible refine belowAlloc ?_) | (with_reducible refine Below.setCell ?_ (by first | omega | (simp; done) | (simp; omega)) _) | (with_reducible refine Below.drew ?_) | (with_reducible refine below_drewN ?_ _)))
  have hzw1 := hBw.size
  clear hb
  go_wp2_with fail
  refine (HX.out _ (HR.out.later (by (repeat' (first | (with_reducible exact Below.refl _ _) | (with_reducible assumption) | (with_reducible refine belowThru ?_ (by assumption)) | (with_reducible refine belowAlloc ?_) | (with_reducible refine Below.setCell ?_ (by first | omega | (simp; done) | (simp; omega)) _) | (with_reducible refine Below.drew ?_) | (with_reducible refine below_drewN ?_ _)))))).mono ?_
  rintro e w2 ⟨rfl, hb⟩
  have kn0 : Blk w2 (w.heap.size) #[.int .i64 X, .int .i64 Z, .int .i64 lo, .int .i64 hi] 45 := Blk.later hb (by (repeat' (first | (with_reducible assumption) | (with_reducible refine Blk.set2 ?_) | ((with_reducible refine Blk.new ?_); first | rfl | (simp; done)) | (with_reducible refine Blk.later (by assumption) ?_) | (with_reducible refine Blk.alloc ?_) | (with_reducible refine Blk.drewN ?_) | (with_reducible refine Blk.drew ?_) | (with_reducible refine Blk.other ?_ (by first | omega | (simp; done) | (simp; omega))))))
  clear k0 a0 b0 y0
  have k0 := kn0; clear kn0; obtain ⟨a0, b0⟩ := k0.read; have y0 := k0.lt
  replace hBw : Below w.heap.size w w2 := belowThru (by (repeat' (first | (with_reducible exact Below.refl _ _) | (with_reducible assumption) | (with_reducible refine belowThru ?_ (by assumption)) | (with_reducible refine belowAlloc ?_) | (with_reducible refine Below.setCell ?_ (by first | omega | (simp; done) | (simp; omega)) _) | (with_reducible refine Below.drew ?_) | (with_reducible refine below_drewN ?_ _)))) hb
  have hzw2 := hBw.size
  clear hb
  go_wp2_with fail
  refine (HV.out _ _ (by (repeat' (first | (with_reducible assumption) | ((with_reducible refine Blk.new ?_); first | rfl | (simp; done)) | (with_reducible refine Blk.later (by assumption) ?_) | (with_reducible refine Blk.alloc ?_) | (with_reducible refine Blk.drewN ?_) | (with_reducible refine Blk.drew ?_) | (with_reducible refine Blk.other ?_ (by first | omega | (simp; done) | (simp; omega))))))).mono ?_
  rintro e w3 ⟨rfl, hb⟩
  have kn0 : Blk w3 (w.heap.size) #[.int .i64 X, .int .i64 Z, .int .i64 lo, .int .i64 hi] 45 := Blk.later hb (by (repeat' (first | (with_reducible assumption) | (with_reducible refine Blk.set2 ?_) | ((with_reducible refine Blk.new ?_); first | rfl | (simp; done)) | (with_reducible refine Blk.later (by assumption) ?_) | (with_reducible refine Blk.alloc ?_) | (with_reducible refine Blk.drewN ?_) | (with_reducible refine Blk.drew ?_) | (with_reducible refine Blk.other ?_ (by first | omega | (simp; done) | (simp; omega))))))
  have kn1 : Blk w3 (w2.heap.size) #[.int .i64 r1, .int .i64 r2, .int .i64 r3, .int .i64 r4] 35 := Blk.later hb (by (repeat' (first | (with_reducible assumption) | (with_reducible refine Blk.set2 ?_) | ((with_reducible refine Blk.new ?_); first | rfl | (simp; done)) | (with_reducible refine Blk.later (by assumption) ?_) | (with_reducible refine Blk.alloc ?_) | (with_reducible refine Blk.drewN ?_) | (with_reducible refine Blk.drew ?_) | (with_reducible refine Blk.other ?_ (by first | omega | (simp; done) | (simp; omega))))))
  clear k0 a0 b0 y0
  have k0 := kn0; clear kn0; obtain ⟨a0, b0⟩ := k0.read; have y0 := k0.lt
  have k1 := kn1; clear kn1; obtain ⟨a1, b1⟩ := k1.read; have y1 := k1.lt
  replace hBw : Below w.heap.size w w3 := belowThru (by (repeat' (first | (with_reducible exact Below.refl _ _) | (with_reducible assumption) | (with_reducible refine belowThru ?_ (by assumption)) | (with_reducible refine belowAlloc ?_) | (with_reducible refine Below.setCell ?_ (by first | omega | (simp; done) | (simp; omega)) _) | (with_reducible refine Below.drew ?_) | (with_reducible refine below_drewN ?_ _)))) hb
  have hzw3 := hBw.size
  clear hb
  go_wp2_with fail
  obtain ⟨Wp, rfl⟩ : ∃ Wp, Wp = w3 := ⟨_, rfl⟩
  clear a0 b0 y0; have y0 := k0.lt
  clear a1 b1 y1; have y1 := k1.lt
  have HRp : Hid (VRow Wp a n vs) := HR.out.later hBw
  go_cut [8] (fun s8 wx => (∃ (a2 : Option Addr) (c2 : Nat), s8 = .slice a2 ((n + 1 : Nat)) c2 ∧ n + 1 ≤ c2 ∧ VRow wx a2 (n + 1) (vs ++ [(X, Z, lo, hi)])) ∧ Below Wp.heap.size Wp wx)
  case first =>
    refine wp_region_held_drew (S := fun w' => (Blk w' (w.heap.size) #[.int .i64 X, .int .i64 Z, .int .i64 lo, .int .i64 hi] 45 ∧ (∀ i : Nat, w'.cell? ⟨w.heap.size, i, none⟩ = (#[.int .i64 X, .int .i64 Z, .int .i64 lo, .int .i64 hi] : Array Value)[i]?)) ∧ Below Wp.heap.size Wp w') hmx ⟨k0.drew.full, (Below.refl _ _).drew⟩ (fun hHeld => ?_)
    obtain ⟨Wd, hWd⟩ : ∃ Wd, Wp.drew = Wd := ⟨_, rfl⟩
    have hBd : Below Wp.heap.size Wp Wd := by rw [← hWd]; exact (Below.refl _ _).drew
    rw [hWd] at hHeld ⊢
    clear hWd
    have kv := k0; have hn := HN.out; have hl := HL.out
    have hsz := hBd.size
    clear k0 k1 y0 y1 hBw
    refine wpAnyH_take (i := 1) (v := ?_) rfl (by kernel_rfl) (by kernel_rfl) (by kernel_rfl) (fun _ _ _ h => h) (Or.inl ⟨by rfl, ?hT2⟩) (by assumption) ?_
    case hT2 => ((intro w hSw; (try dsimp only at hSw); go_simp); try (with_reducible rfl))
    try simp only [Act.put, List.setIfInBounds_toArray, List.set_cons_zero, List.set_cons_succ]
    refine wpAnyH_take (i := 3) (v := ?_) rfl (by kernel_rfl) (by kernel_rfl) (by kernel_rfl) (fun _ _ _ h => h) (Or.inl ⟨by rfl, ?hT3⟩) (by assumption) ?_
    case hT3 => ((intro w hSw; (try dsimp only at hSw); go_simp); try (with_reducible rfl))
    try simp only [Act.put, List.setIfInBounds_toArray, List.set_cons_zero, List.set_cons_succ]
    have hB0 := hBd
    refine wpAnyH_ready (rs := [0, 4]) (by kernel_rfl) (by simp) ?_
    refine AllReadyH.cons rfl (fun K hK => ?_) (AllReadyH.cons rfl (fun K hK => ?_) AllReadyH.nil)
    · skip
      go_simp
      have hBn : Below Wp.heap.size Wp (Wd.alloc (.cells #[] 45)) := belowAlloc hB0
      have o42 : Blk (Wd.alloc (.cells #[] 45)) Wd.heap.size #[] 45 := Blk.new rfl
      refine hK.out _ _ ?_ (fun hHeldN => ?_)
      · (try dsimp only); exact ⟨(Blk.later hBn kv).full, hBn⟩
      clear hK K hHeld
      have hHeld := hHeldN
      clear hHeldN
      try simp only [Act.put, List.setIfInBounds_toArray, List.set_cons_zero, List.set_cons_succ]
      obtain ⟨W1, hW1⟩ : ∃ z, Wd.alloc (.cells #[] 45) = z := ⟨_, rfl⟩
      have hsW1 : Wd.heap.size < W1.heap.size := by rw [← hW1, World.size_alloc]; omega
      rw [hW1] at hHeld hBn o42 ⊢
      clear hW1
      have hB1 := hBn; clear hBn
      refine wpAnyH_ready (rs := [2, 4]) (by kernel_rfl) (by simp) ?_
      refine AllReadyH.cons rfl (fun K hK => ?_) (AllReadyH.cons rfl (fun K hK => ?_) AllReadyH.nil)
      · skip
        rw [if_pos (by rfl)]
        refine wp_append_slot _ _ _ _ rfl _ _ rfl rfl (app_copy _ (Nat.le_refl _) o42 (HRp.out.later hB1) (by omega)) ?_
        rintro r W2 ⟨a1, c1, rfl, O1, hb1, hkp⟩
        have hBn : Below Wp.heap.size Wp W2 := Below.trans hB1 (hb1.mono (by omega))
        have hsW2 := hb1.size
        clear hb1 hkp o42
        refine hK.out _ _ ?_ (fun hHeldN => ?_)
        · (try dsimp only); exact ⟨(Blk.later hBn kv).full, hBn⟩
        clear hK K hHeld
        have hHeld := hHeldN
        clear hHeldN
        try simp only [Act.put, List.setIfInBounds_toArray, List.set_cons_zero, List.set_cons_succ]
        have hB2 := hBn; clear hBn
        refine wpAnyH_ready (rs := [4]) (by kernel_rfl) (by simp) ?_
        refine AllReadyH.cons rfl (fun K hK => ?_) AllReadyH.nil
        go_simp
        have hBn : Below Wp.heap.size Wp (W2.alloc (.cells #[.int .i64 X, .int .i64 Z, .int .i64 lo, .int .i64 hi] 45)) := belowAlloc hB2
        have x46 : Blk (W2.alloc (.cells #[.int .i64 X, .int .i64 Z, .int .i64 lo, .int .i64 hi] 45)) W2.heap.size #[.int .i64 X, .int .i64 Z, .int .i64 lo, .int .i64 hi] 45 := Blk.new rfl
        replace O1 := OwnV.later (belowAlloc (o := .cells #[.int .i64 X, .int .i64 Z, .int .i64 lo, .int .i64 hi] 45) (Below.refl _ _)) O1
        refine hK.out _ _ ?_ (fun hHeldN => ?_)
        · (try dsimp only); exact ⟨(Blk.later hBn kv).full, hBn⟩
        clear hK K hHeld
        have hHeld := hHeldN
        clear hHeldN
        try simp only [Act.put, List.setIfInBounds_toArray, List.set_cons_zero, List.set_cons_succ]
        obtain ⟨W3, hW3⟩ : ∃ z, W2.alloc (.cells #[.int .i64 X, .int .i64 Z, .int .i64 lo, .int .i64 hi] 45) = z := ⟨_, rfl⟩
        have hsW3 : W2.heap.size < W3.heap.size := by rw [← hW3, World.size_alloc]; omega
        rw [hW3] at hHeld hBn O1 x46 ⊢
        clear hW3
        have hB3 := hBn; clear hBn
        refine wpAnyH_ready (rs := [5]) (by kernel_rfl) (by simp) ?_
        refine AllReadyH.cons rfl (fun K hK => ?_) AllReadyH.nil
        rw [if_pos (by rfl)]
        refine wp_append_slot _ _ _ _ rfl _ _ rfl rfl (app_one _ hl (by omega) O1 x46 (by omega)) ?_
        rintro r W4 ⟨a2, c2, rfl, hc2, hR2, hb1⟩
        have hBn : Below Wp.heap.size Wp W4 := Below.trans hB3 (hb1.mono (by omega))
        clear hb1 O1 x46
        refine hK.out _ _ ?_ (fun hHeldN => ?_)
        · (try dsimp only); exact ⟨(Blk.later hBn kv).full, hBn⟩
        clear hK K hHeld
        have hHeld := hHeldN
        clear hHeldN
        try simp only [Act.put, List.setIfInBounds_toArray, List.set_cons_zero, List.set_cons_succ]
        refine wpAnyH_ready (rs := [6]) (by kernel_rfl) (by simp) ?_
        refine AllReadyH.cons rfl (fun K hK => ?_) AllReadyH.nil
        go_simp
        refine hK.out _ _ ?_ (fun hHeldN => ?_)
        · (try dsimp only); exact hHeld
        clear hK K hHeld
        have hHeld := hHeldN
        clear hHeldN
        try simp only [Act.put, List.setIfInBounds_toArray, List.set_cons_zero, List.set_cons_succ]
        refine wpAnyH_done (by kernel_rfl) ?_ _
        go_wp2_with fail
        go_meet
        exact ⟨⟨a2, c2, rfl, hc2, hR2⟩, hBn⟩
      · skip
        go_simp
        have hBn : Below Wp.heap.size Wp (W1.alloc (.cells #[.int .i64 X, .int .i64 Z, .int .i64 lo, .int .i64 hi] 45)) := belowAlloc hB1
        have x46 : Blk (W1.alloc (.cells #[.int .i64 X, .int .i64 Z, .int .i64 lo, .int .i64 hi] 45)) W1.heap.size #[.int .i64 X, .int .i64 Z, .int .i64 lo, .int .i64 hi] 45 := Blk.new rfl
        replace o42 := Blk.alloc (o := .cells #[.int .i64 X, .int .i64 Z, .int .i64 lo, .int .i64 hi] 45) o42
        refine hK.out _ _ ?_ (fun hHeldN => ?_)
        · (try dsimp only); exact ⟨(Blk.later hBn kv).full, hBn⟩
        clear hK K hHeld
        have hHeld := hHeldN
        clear hHeldN
        try simp only [Act.put, List.setIfInBounds_toArray, List.set_cons_zero, List.set_cons_succ]
        obtain ⟨W2, hW2⟩ : ∃ z, W1.alloc (.cells #[.int .i64 X, .int .i64 Z, .int .i64 lo, .int .i64 hi] 45) = z := ⟨_, rfl⟩
        have hsW2 : W1.heap.size < W2.heap.size := by rw [← hW2, World.size_alloc]; omega
        rw [hW2] at hHeld hBn o42 x46 ⊢
        clear hW2
        have hB2 := hBn; clear hBn
        refine wpAnyH_ready (rs := [2]) (by kernel_rfl) (by simp) ?_
        refine AllReadyH.cons rfl (fun K hK => ?_) AllReadyH.nil
        rw [if_pos (by rfl)]
        refine wp_append_slot _ _ _ _ rfl _ _ rfl rfl (app_copy _ (Nat.le_refl _) o42 (HRp.out.later hB2) (by omega)) ?_
        rintro r W3 ⟨a1, c1, rfl, O1, hb1, hkp⟩
        have hBn : Below Wp.heap.size Wp W3 := Below.trans hB2 (hb1.mono (by omega))
        replace x46 : Blk W3 _ #[.int .i64 X, .int .i64 Z, .int .i64 lo, .int .i64 hi] 45 := (hkp _ x46.lt (by omega)).trans x46
        have hsW3 := hb1.size
        clear hb1 hkp o42
        refine hK.out _ _ ?_ (fun hHeldN => ?_)
        · (try dsimp only); exact ⟨(Blk.later hBn kv).full, hBn⟩
        clear hK K hHeld
        have hHeld := hHeldN
        clear hHeldN
        try simp only [Act.put, List.setIfInBounds_toArray, List.set_cons_zero, List.set_cons_succ]
        have hB3 := hBn; clear hBn
        refine wpAnyH_ready (rs := [5]) (by kernel_rfl) (by simp) ?_
        refine AllReadyH.cons rfl (fun K hK => ?_) AllReadyH.nil
        rw [if_pos (by rfl)]
        refine wp_append_slot _ _ _ _ rfl _ _ rfl rfl (app_one _ hl (by omega) O1 x46 (by omega)) ?_
        rintro r W4 ⟨a2, c2, rfl, hc2, hR2, hb1⟩
        have hBn : Below Wp.heap.size Wp W4 := Below.trans hB3 (hb1.mono (by omega))
        clear hb1 O1 x46
        refine hK.out _ _ ?_ (fun hHeldN => ?_)
        · (try dsimp only); exact ⟨(Blk.later hBn kv).full, hBn⟩
        clear hK K hHeld
        have hHeld := hHeldN
        clear hHeldN
        try simp only [Act.put, List.setIfInBounds_toArray, List.set_cons_zero, List.set_cons_succ]
        refine wpAnyH_ready (rs := [6]) (by kernel_rfl) (by simp) ?_
        refine AllReadyH.cons rfl (fun K hK => ?_) AllReadyH.nil
        go_simp
        refine hK.out _ _ ?_ (fun hHeldN => ?_)
        · (try dsimp only); exact hHeld
        clear hK K hHeld
        have hHeld := hHeldN
        clear hHeldN
        try simp only [Act.put, List.setIfInBounds_toArray, List.set_cons_zero, List.set_cons_succ]
        refine wpAnyH_done (by kernel_rfl) ?_ _
        go_wp2_with fail
        go_meet
        exact ⟨⟨a2, c2, rfl, hc2, hR2⟩, hBn⟩
    · skip
      go_simp
      have hBn : Below Wp.heap.size Wp (Wd.alloc (.cells #[.int .i64 X, .int .i64 Z, .int .i64 lo, .int .i64 hi] 45)) := belowAlloc hB0
      have x46 : Blk (Wd.alloc (.cells #[.int .i64 X, .int .i64 Z, .int .i64 lo, .int .i64 hi] 45)) Wd.heap.size #[.int .i64 X, .int .i64 Z, .int .i64 lo, .int .i64 hi] 45 := Blk.new rfl
      refine hK.out _ _ ?_ (fun hHeldN => ?_)
      · (try dsimp only); exact ⟨(Blk.later hBn kv).full, hBn⟩
      clear hK K hHeld
      have hHeld := hHeldN
      clear hHeldN
      try simp only [Act.put, List.setIfInBounds_toArray, List.set_cons_zero, List.set_cons_succ]
      obtain ⟨W1, hW1⟩ : ∃ z, Wd.alloc (.cells #[.int .i64 X, .int .i64 Z, .int .i64 lo, .int .i64 hi] 45) = z := ⟨_, rfl⟩
      have hsW1 : Wd.heap.size < W1.heap.size := by rw [← hW1, World.size_alloc]; omega
      rw [hW1] at hHeld hBn x46 ⊢
      clear hW1
      have hB1 := hBn; clear hBn
      refine wpAnyH_ready (rs := [0]) (by kernel_rfl) (by simp) ?_
      refine AllReadyH.cons rfl (fun K hK => ?_) AllReadyH.nil
      go_simp
      have hBn : Below Wp.heap.size Wp (W1.alloc (.cells #[] 45)) := belowAlloc hB1
      have o42 : Blk (W1.alloc (.cells #[] 45)) W1.heap.size #[] 45 := Blk.new rfl
      replace x46 := Blk.alloc (o := .cells #[] 45) x46
      refine hK.out _ _ ?_ (fun hHeldN => ?_)
      · (try dsimp only); exact ⟨(Blk.later hBn kv).full, hBn⟩
      clear hK K hHeld
      have hHeld := hHeldN
      clear hHeldN
      try simp only [Act.put, List.setIfInBounds_toArray, List.set_cons_zero, List.set_cons_succ]
      obtain ⟨W2, hW2⟩ : ∃ z, W1.alloc (.cells #[] 45) = z := ⟨_, rfl⟩
      have hsW2 : W1.heap.size < W2.heap.size := by rw [← hW2, World.size_alloc]; omega
      rw [hW2] at hHeld hBn x46 o42 ⊢
      clear hW2
      have hB2 := hBn; clear hBn
      refine wpAnyH_ready (rs := [2]) (by kernel_rfl) (by simp) ?_
      refine AllReadyH.cons rfl (fun K hK => ?_) AllReadyH.nil
      rw [if_pos (by rfl)]
      refine wp_append_slot _ _ _ _ rfl _ _ rfl rfl (app_copy _ (Nat.le_refl _) o42 (HRp.out.later hB2) (by omega)) ?_
      rintro r W3 ⟨a1, c1, rfl, O1, hb1, hkp⟩
      have hBn : Below Wp.heap.size Wp W3 := Below.trans hB2 (hb1.mono (by omega))
      replace x46 : Blk W3 _ #[.int .i64 X, .int .i64 Z, .int .i64 lo, .int .i64 hi] 45 := (hkp _ x46.lt (by omega)).trans x46
      have hsW3 := hb1.size
      clear hb1 hkp o42
      refine hK.out _ _ ?_ (fun hHeldN => ?_)
      · (try dsimp only); exact ⟨(Blk.later hBn kv).full, hBn⟩
      clear hK K hHeld
      have hHeld := hHeldN
      clear hHeldN
      try simp only [Act.put, List.setIfInBounds_toArray, List.set_cons_zero, List.set_cons_succ]
      have hB3 := hBn; clear hBn
      refine wpAnyH_ready (rs := [5]) (by kernel_rfl) (by simp) ?_
      refine AllReadyH.cons rfl (fun K hK => ?_) AllReadyH.nil
      rw [if_pos (by rfl)]
      refine wp_append_slot _ _ _ _ rfl _ _ rfl rfl (app_one _ hl (by omega) O1 x46 (by omega)) ?_
      rintro r W4 ⟨a2, c2, rfl, hc2, hR2, hb1⟩
      have hBn : Below Wp.heap.size Wp W4 := Below.trans hB3 (hb1.mono (by omega))
      clear hb1 O1 x46
      refine hK.out _ _ ?_ (fun hHeldN => ?_)
      · (try dsimp only); exact ⟨(Blk.later hBn kv).full, hBn⟩
      clear hK K hHeld
      have hHeld := hHeldN
      clear hHeldN
      try simp only [Act.put, List.setIfInBounds_toArray, List.set_cons_zero, List.set_cons_succ]
      refine wpAnyH_ready (rs := [6]) (by kernel_rfl) (by simp) ?_
      refine AllReadyH.cons rfl (fun K hK => ?_) AllReadyH.nil
      go_simp
      refine hK.out _ _ ?_ (fun hHeldN => ?_)
      · (try dsimp only); exact hHeld
      clear hK K hHeld
      have hHeld := hHeldN
      clear hHeldN
      try simp only [Act.put, List.setIfInBounds_toArray, List.set_cons_zero, List.set_cons_succ]
      refine wpAnyH_done (by kernel_rfl) ?_ _
      go_wp2_with fail
      go_meet
      exact ⟨⟨a2, c2, rfl, hc2, hR2⟩, hBn⟩
  case rest =>
    obtain ⟨⟨a2, c2, rfl, hc2, hR2⟩, hb⟩ := hcut
    obtain ⟨wq, rfl⟩ : ∃ wq, wq = wc := ⟨_, rfl⟩
    replace k0 := Blk.later hb k0; clear y0; obtain ⟨a00, b00⟩ := k0.read; have y0 := k0.lt
    replace k1 := Blk.later hb k1; clear y1; obtain ⟨a10, b10⟩ := k1.read; have y1 := k1.lt
    replace hBw : Below w.heap.size w wq := belowThru hBw hb
    have hzq := hBw.size
    have HM := Lib.hid hR2; clear hb hR2 HRp
    have a0 := a00; have b0 := b00; clear a00 b00
    have a1 := a10; have b1 := b10; clear a10 b10
    go_wp2_with fail
    refine (HF.out _ _ _ hc2 (HM.out.later (by (repeat' (first | (with_reducible exact Below.refl _ _) | (with_reducible assumption) | (with_reducible refine belowThru ?_ (by assumption)) | (with_reducible refine belowAlloc ?_) | (with_reducible refine Below.setCell ?_ (by first | omega | (simp; done) | (simp; omega)) _) | (with_reducible refine Below.drew ?_) | (with_reducible refine below_drewN ?_ _)))))).mono ?_
    rintro e w4 ⟨rfl, hb⟩
    replace HM : Hid (VRow w4 a2 (n + 1) (vs ++ [(X, Z, lo, hi)])) := HM.out.later hb
    have kn0 : Blk w4 (w.heap.size) #[.int .i64 X, .int .i64 Z, .int .i64 lo, .int .i64 hi] 45 := Blk.later hb (by (repeat' (first | (with_reducible assumption) | (with_reducible refine Blk.set2 ?_) | ((with_reducible refine Blk.new ?_); first | rfl | (simp; done)) | (with_reducible refine Blk.later (by assumption) ?_) | (with_reducible refine Blk.alloc ?_) | (with_reducible refine Blk.drewN ?_) | (with_reducible refine Blk.drew ?_) | (with_reducible refine Blk.other ?_ (by first | omega | (simp; done) | (simp; omega))))))
    have kn1 : Blk w4 (w2.heap.size) #[.int .i64 r1, .int .i64 r2, .int .i64 r3, .int .i64 r4] 35 := Blk.later hb (by (repeat' (first | (with_reducible assumption) | (with_reducible refine Blk.set2 ?_) | ((with_reducible refine Blk.new ?_); first | rfl | (simp; done)) | (with_reducible refine Blk.later (by assumption) ?_) | (with_reducible refine Blk.alloc ?_) | (with_reducible refine Blk.drewN ?_) | (with_reducible refine Blk.drew ?_) | (with_reducible refine Blk.other ?_ (by first | omega | (simp; done) | (simp; omega))))))
    clear k0 a0 b0 y0
    clear k1 a1 b1 y1
    have k0 := kn0; clear kn0; obtain ⟨a0, b0⟩ := k0.read; have y0 := k0.lt
    have k1 := kn1; clear kn1; obtain ⟨a1, b1⟩ := k1.read; have y1 := k1.lt
    replace hBw : Below w.heap.size w w4 := belowThru (by (repeat' (first | (with_reducible exact Below.refl _ _) | (with_reducible assumption) | (with_reducible refine belowThru ?_ (by assumption)) | (with_reducible refine belowAlloc ?_) | (with_reducible refine Below.setCell ?_ (by first | omega | (simp; done) | (simp; omega)) _) | (with_reducible refine Below.drew ?_) | (with_reducible refine below_drewN ?_ _)))) hb
    have hzw4 := hBw.size
    clear hb
    go_wp2_with fail
    obtain ⟨Wp, rfl⟩ : ∃ Wp, Wp = w4 := ⟨_, rfl⟩
    clear a0 b0 y0; have y0 := k0.lt
    clear a1 b1 y1; have y1 := k1.lt
    have hS := HS; have hE := HE
    refine wp_region_inv (Ti0 X Z lo hi r1 r2 r3 r4 m1 m2 m3 m4 w w2 Wp ?i54 ?i55 ?i56 ?i57 ?i58 ?i59 ?i60 ?i53 ?i61 ?i62 ?i11 ?i12) (by kernel_rfl) (by kernel_rfl) ?hsz ?hst ?hstep ?hfin
    case hst =>
      unfold Ti0
      refine ⟨false, false, false, false, false, false, false, false, false, false, false, false, false, 0, rfl, ?_, ?_, ?_, ?_, ?_, ?_, ?_⟩
      · first | (simp only [Act.put, List.setIfInBounds_toArray, List.set_cons_zero, List.set_cons_succ, cond_false]; done) | (simp only [Act.put, List.setIfInBounds_toArray, List.set_cons_zero, List.set_cons_succ, cond_false]; rfl)
      all_goals (first | (intro h; cases h; done) | ((repeat' (first | (with_reducible assumption) | ((with_reducible refine Blk.new ?_); first | rfl | (simp; done)) | (with_reducible refine Blk.later (by assumption) ?_) | (with_reducible refine Blk.alloc ?_) | (with_reducible refine Blk.drewN ?_) | (with_reducible refine Blk.drew ?_) | (with_reducible refine Blk.other ?_ (by first | omega | (simp; done) | (simp; omega))))); done) | ((repeat' (first | (with_reducible exact Below.refl _ _) | (with_reducible assumption) | (with_reducible refine belowThru ?_ (by assumption)) | (with_reducible refine belowAlloc ?_) | (with_reducible refine Below.setCell ?_ (by first | omega | (simp; done) | (simp; omega)) _) | (with_reducible refine Below.drew ?_) | (with_reducible refine below_drewN ?_ _))); done) | (simp only [cond_false]; (repeat' (first | (with_reducible assumption) | ((with_reducible refine Blk.new ?_); first | rfl | (simp; done)) | (with_reducible refine Blk.later (by assumption) ?_) | (with_reducible refine Blk.alloc ?_) | (with_reducible refine Blk.drewN ?_) | (with_reducible refine Blk.drew ?_) | (with_reducible refine Blk.other ?_ (by first | omega | (simp; done) | (simp; omega))))); done) | (simp only [World.size_drew]; omega) | (simp only [World.size_drew] at *; omega) | (simp; done) | (simp; omega))
    case hsz =>
      intro L a w9 h
      obtain ⟨gg0, gg1, gg2, gg3, gg4, gg5, gg6, gg7, gg8, gg9, gg10, gg11, gg12, x10, rfl, -⟩ := h; rfl
    case hstep =>
      intro L a w9 hI i hi
      obtain ⟨gg0, gg1, gg2, gg3, gg4, gg5, gg6, gg7, gg8, gg9, gg10, gg11, gg12, x10, rfl, rfl, fb0, fb1, fB, fL, f10, s10⟩ := hI
      obtain ⟨hi1, hi2, o, ho, hall⟩ := inv_mem hi
      clear hi
      rcases i with _ | _ | _ | _ | _ | _ | _ | _ | _ | _ | _ | _ | _ | i
      · have ge0 : gg0 = false := hi2
        clear hall hi1 hi2
        subst ge0
        have ho2 := ho
        simp only [List.getElem?_toArray, List.getElem?_cons_zero, List.getElem?_cons_succ] at ho2
        have ho3 := Option.some.inj ho2; clear ho2; subst ho3
        obtain ⟨ba0, bb0⟩ := fb0.read; have bl0 := fb0.lt
        obtain ⟨ba1, bb1⟩ := fb1.read; have bl1 := fb1.lt
        simp only [Act.put, List.setIfInBounds_toArray, List.set_cons_zero, List.set_cons_succ]
        simp only [cond_true, cond_false]
        refine inv_op ho (by kernel_rfl) (fun K hK => ?_)
        clear ho
        go_simp
        refine hK.out _ _ ?_
        unfold Ti0
        refine ⟨true, gg1, gg2, gg3, gg4, gg5, gg6, gg7, gg8, gg9, gg10, gg11, gg12, x10, rfl, by simp only [Act.put, List.setIfInBounds_toArray, List.set_cons_zero, List.set_cons_succ, cond_true, cond_false, Bool.cond_self], ?_, ?_, ?_, ?_, ?_, ?_⟩
        · exact fb0
        · exact fb1
        · exact fB
        · exact fL
        · exact f10
        · exact s10
      · have ge1 : gg1 = false := hi2
        clear hall hi1 hi2
        subst ge1
        have ho2 := ho
        simp only [List.getElem?_toArray, List.getElem?_cons_zero, List.getElem?_cons_succ] at ho2
        have ho3 := Option.some.inj ho2; clear ho2; subst ho3
        obtain ⟨ba0, bb0⟩ := fb0.read; have bl0 := fb0.lt
        obtain ⟨ba1, bb1⟩ := fb1.read; have bl1 := fb1.lt
        simp only [Act.put, List.setIfInBounds_toArray, List.set_cons_zero, List.set_cons_succ]
        simp only [cond_true, cond_false]
        refine inv_op ho (by kernel_rfl) (fun K hK => ?_)
        clear ho
        go_simp
        refine hK.out _ _ ?_
        unfold Ti0
        refine ⟨gg0, true, gg2, gg3, gg4, gg5, gg6, gg7, gg8, gg9, gg10, gg11, gg12, x10, rfl, by simp only [Act.put, List.setIfInBounds_toArray, List.set_cons_zero, List.set_cons_succ, cond_true, cond_false, Bool.cond_self], ?_, ?_, ?_, ?_, ?_, ?_⟩
        · exact fb0
        · exact fb1
        · exact fB
        · exact fL
        · exact f10
        · exact s10
      · have ge2 : gg2 = false := hi2
        have ge1 : gg1 = true := inv_dep ho hall 1 (by kernel_rfl)
        clear hall hi1 hi2
        subst ge2 ge1
        have ho2 := ho
        simp only [List.getElem?_toArray, List.getElem?_cons_zero, List.getElem?_cons_succ] at ho2
        have ho3 := Option.some.inj ho2; clear ho2; subst ho3
        obtain ⟨ba0, bb0⟩ := fb0.read; have bl0 := fb0.lt
        obtain ⟨ba1, bb1⟩ := fb1.read; have bl1 := fb1.lt
        simp only [Act.put, List.setIfInBounds_toArray, List.set_cons_zero, List.set_cons_succ]
        simp only [cond_true, cond_false]
        refine inv_op ho (by kernel_rfl) (fun K hK => ?_)
        clear ho
        go_simp
        refine hK.out _ _ ?_
        unfold Ti0
        refine ⟨gg0, true, true, gg3, gg4, gg5, gg6, gg7, gg8, gg9, gg10, gg11, gg12, x10, rfl, by simp only [Act.put, List.setIfInBounds_toArray, List.set_cons_zero, List.set_cons_succ, cond_true, cond_false, Bool.cond_self], ?_, ?_, ?_, ?_, ?_, ?_⟩
        · exact fb0
        · exact fb1
        · exact fB
        · exact fL
        · exact f10
        · exact s10
      · have ge3 : gg3 = false := hi2
        clear hall hi1 hi2
        subst ge3
        have ho2 := ho
        simp only [List.getElem?_toArray, List.getElem?_cons_zero, List.getElem?_cons_succ] at ho2
        have ho3 := Option.some.inj ho2; clear ho2; subst ho3
        obtain ⟨ba0, bb0⟩ := fb0.read; have bl0 := fb0.lt
        obtain ⟨ba1, bb1⟩ := fb1.read; have bl1 := fb1.lt
        simp only [Act.put, List.setIfInBounds_toArray, List.set_cons_zero, List.set_cons_succ]
        simp only [cond_true, cond_false]
        refine inv_op ho (by kernel_rfl) (fun K hK => ?_)
        clear ho
        go_simp
        refine hK.out _ _ ?_
        unfold Ti0
        refine ⟨gg0, gg1, gg2, true, gg4, gg5, gg6, gg7, gg8, gg9, gg10, gg11, gg12, x10, rfl, by simp only [Act.put, List.setIfInBounds_toArray, List.set_cons_zero, List.set_cons_succ, cond_true, cond_false, Bool.cond_self], ?_, ?_, ?_, ?_, ?_, ?_⟩
        · exact fb0
        · exact fb1
        · exact fB
        · exact fL
        · exact f10
        · exact s10
      · have ge4 : gg4 = false := hi2
        have ge3 : gg3 = true := inv_dep ho hall 3 (by kernel_rfl)
        clear hall hi1 hi2
        subst ge4 ge3
        have ho2 := ho
        simp only [List.getElem?_toArray, List.getElem?_cons_zero, List.getElem?_cons_succ] at ho2
        have ho3 := Option.some.inj ho2; clear ho2; subst ho3
        obtain ⟨ba0, bb0⟩ := fb0.read; have bl0 := fb0.lt
        obtain ⟨ba1, bb1⟩ := fb1.read; have bl1 := fb1.lt
        simp only [Act.put, List.setIfInBounds_toArray, List.set_cons_zero, List.set_cons_succ]
        simp only [cond_true, cond_false]
        refine inv_op ho (by kernel_rfl) (fun K hK => ?_)
        clear ho
        go_simp
        refine hK.out _ _ ?_
        unfold Ti0
        refine ⟨gg0, gg1, gg2, true, true, gg5, gg6, gg7, gg8, gg9, gg10, gg11, gg12, x10, rfl, by simp only [Act.put, List.setIfInBounds_toArray, List.set_cons_zero, List.set_cons_succ, cond_true, cond_false, Bool.cond_self], ?_, ?_, ?_, ?_, ?_, ?_⟩
        · exact fb0
        · exact fb1
        · exact fB
        · exact fL
        · exact f10
        · exact s10
      · have ge5 : gg5 = false := hi2
        have ge2 : gg2 = true := inv_dep ho hall 2 (by kernel_rfl)
        have ge4 : gg4 = true := inv_dep ho hall 4 (by kernel_rfl)
        clear hall hi1 hi2
        subst ge5 ge2 ge4
        have ho2 := ho
        simp only [List.getElem?_toArray, List.getElem?_cons_zero, List.getElem?_cons_succ] at ho2
        have ho3 := Option.some.inj ho2; clear ho2; subst ho3
        obtain ⟨ba0, bb0⟩ := fb0.read; have bl0 := fb0.lt
        obtain ⟨ba1, bb1⟩ := fb1.read; have bl1 := fb1.lt
        simp only [Act.put, List.setIfInBounds_toArray, List.set_cons_zero, List.set_cons_succ]
        simp only [cond_true, cond_false]
        refine inv_op ho (by kernel_rfl) (fun K hK => ?_)
        clear ho
        go_simp
        go_at_call 24; (with_reducible refine (hS.out _).mono ?_); rintro e w8 ⟨rfl, hb⟩
        refine hK.out _ _ ?_
        unfold Ti0
        refine ⟨gg0, gg1, true, gg3, true, true, gg6, gg7, gg8, gg9, gg10, gg11, gg12, x10, rfl, by simp only [Act.put, List.setIfInBounds_toArray, List.set_cons_zero, List.set_cons_succ, cond_true, cond_false, Bool.cond_self], ?_, ?_, ?_, ?_, ?_, ?_⟩
        · exact Blk.later hb fb0
        · exact Blk.later hb fb1
        · exact belowThru fB hb
        · have := hb.size; omega
        · intro h; obtain ⟨p, q⟩ := f10 h; exact ⟨Blk.later hb p, q⟩
        · exact s10
      · have ge6 : gg6 = false := hi2
        have ge0 : gg0 = true := inv_dep ho hall 0 (by kernel_rfl)
        have ge5 : gg5 = true := inv_dep ho hall 5 (by kernel_rfl)
        clear hall hi1 hi2
        subst ge6 ge0 ge5
        have ho2 := ho
        simp only [List.getElem?_toArray, List.getElem?_cons_zero, List.getElem?_cons_succ] at ho2
        have ho3 := Option.some.inj ho2; clear ho2; subst ho3
        obtain ⟨ba0, bb0⟩ := fb0.read; have bl0 := fb0.lt
        obtain ⟨ba1, bb1⟩ := fb1.read; have bl1 := fb1.lt
        simp only [Act.put, List.setIfInBounds_toArray, List.set_cons_zero, List.set_cons_succ]
        simp only [cond_true, cond_false]
        refine inv_op ho (by kernel_rfl) (fun K hK => ?_)
        clear ho
        go_simp
        go_at_call 46; (with_reducible refine (hE.out _).mono ?_); rintro e w8 ⟨rfl, hb⟩
        refine hK.out _ _ ?_
        unfold Ti0
        refine ⟨true, gg1, gg2, gg3, gg4, true, true, gg7, gg8, gg9, gg10, gg11, gg12, x10, rfl, by simp only [Act.put, List.setIfInBounds_toArray, List.set_cons_zero, List.set_cons_succ, cond_true, cond_false, Bool.cond_self], ?_, ?_, ?_, ?_, ?_, ?_⟩
        · exact Blk.later hb fb0
        · exact Blk.later hb fb1
        · exact belowThru fB hb
        · have := hb.size; omega
        · intro h; obtain ⟨p, q⟩ := f10 h; exact ⟨Blk.later hb p, q⟩
        · exact s10
      · have ge7 : gg7 = false := hi2
        have ge6 : gg6 = true := inv_dep ho hall 6 (by kernel_rfl)
        clear hall hi1 hi2
        subst ge7 ge6
        have ho2 := ho
        simp only [List.getElem?_toArray, List.getElem?_cons_zero, List.getElem?_cons_succ] at ho2
        have ho3 := Option.some.inj ho2; clear ho2; subst ho3
        obtain ⟨ba0, bb0⟩ := fb0.read; have bl0 := fb0.lt
        obtain ⟨ba1, bb1⟩ := fb1.read; have bl1 := fb1.lt
        simp only [Act.put, List.setIfInBounds_toArray, List.set_cons_zero, List.set_cons_succ]
        simp only [cond_true, cond_false]
        refine inv_op ho (by kernel_rfl) (fun K hK => ?_)
        clear ho
        go_simp
        refine hK.out _ _ ?_
        unfold Ti0
        refine ⟨gg0, gg1, gg2, gg3, gg4, gg5, true, true, gg8, gg9, gg10, gg11, gg12, x10, rfl, by simp only [Act.put, List.setIfInBounds_toArray, List.set_cons_zero, List.set_cons_succ, cond_true, cond_false, Bool.cond_self], ?_, ?_, ?_, ?_, ?_, ?_⟩
        · exact fb0
        · exact fb1
        · exact fB
        · exact fL
        · exact f10
        · exact s10
      · have ge8 : gg8 = false := hi2
        have ge7 : gg7 = true := inv_dep ho hall 7 (by kernel_rfl)
        clear hall hi1 hi2
        subst ge8 ge7
        have ho2 := ho
        simp only [List.getElem?_toArray, List.getElem?_cons_zero, List.getElem?_cons_succ] at ho2
        have ho3 := Option.some.inj ho2; clear ho2; subst ho3
        obtain ⟨ba0, bb0⟩ := fb0.read; have bl0 := fb0.lt
        obtain ⟨ba1, bb1⟩ := fb1.read; have bl1 := fb1.lt
        simp only [Act.put, List.setIfInBounds_toArray, List.set_cons_zero, List.set_cons_succ]
        simp only [cond_true, cond_false]
        refine inv_op ho (by kernel_rfl) (fun K hK => ?_)
        clear ho
        go_simp
        refine hK.out _ _ ?_
        unfold Ti0
        refine ⟨gg0, gg1, gg2, gg3, gg4, gg5, gg6, true, true, gg9, gg10, gg11, gg12, x10, rfl, by simp only [Act.put, List.setIfInBounds_toArray, List.set_cons_zero, List.set_cons_succ, cond_true, cond_false, Bool.cond_self], ?_, ?_, ?_, ?_, ?_, ?_⟩
        · exact fb0
        · exact fb1
        · exact fB
        · exact fL
        · exact f10
        · exact s10
      · have ge9 : gg9 = false := hi2
        have ge7 : gg7 = true := inv_dep ho hall 7 (by kernel_rfl)
        clear hall hi1 hi2
        subst ge9 ge7
        have ho2 := ho
        simp only [List.getElem?_toArray, List.getElem?_cons_zero, List.getElem?_cons_succ] at ho2
        have ho3 := Option.some.inj ho2; clear ho2; subst ho3
        obtain ⟨ba0, bb0⟩ := fb0.read; have bl0 := fb0.lt
        obtain ⟨ba1, bb1⟩ := fb1.read; have bl1 := fb1.lt
        simp only [Act.put, List.setIfInBounds_toArray, List.set_cons_zero, List.set_cons_succ]
        simp only [cond_true, cond_false]
        refine inv_op ho (by kernel_rfl) (fun K hK => ?_)
        clear ho
        go_simp
        refine hK.out _ _ ?_
        unfold Ti0
        refine ⟨gg0, gg1, gg2, gg3, gg4, gg5, gg6, true, gg8, true, gg10, gg11, gg12, x10, rfl, by simp only [Act.put, List.setIfInBounds_toArray, List.set_cons_zero, List.set_cons_succ, cond_true, cond_false, Bool.cond_self], ?_, ?_, ?_, ?_, ?_, ?_⟩
        · exact fb0
        · exact fb1
        · exact fB
        · exact fL
        · exact f10
        · exact s10
      · have ge10 : gg10 = false := hi2
        clear hall hi1 hi2
        subst ge10
        have ho2 := ho
        simp only [List.getElem?_toArray, List.getElem?_cons_zero, List.getElem?_cons_succ] at ho2
        have ho3 := Option.some.inj ho2; clear ho2; subst ho3
        obtain ⟨ba0, bb0⟩ := fb0.read; have bl0 := fb0.lt
        obtain ⟨ba1, bb1⟩ := fb1.read; have bl1 := fb1.lt
        obtain rfl : gg11 = false := by cases gg11; rfl; exact Bool.noConfusion (s10 rfl)
        simp only [Act.put, List.setIfInBounds_toArray, List.set_cons_zero, List.set_cons_succ]
        simp only [cond_true, cond_false]
        refine inv_op ho (by kernel_rfl) (fun K hK => ?_)
        clear ho
        go_simp
        refine hK.out _ _ ?_
        unfold Ti0
        refine ⟨gg0, gg1, gg2, gg3, gg4, gg5, gg6, gg7, gg8, gg9, true, false, gg12, w9.heap.size, rfl, by simp only [Act.put, List.setIfInBounds_toArray, List.set_cons_zero, List.set_cons_succ, cond_true, cond_false, Bool.cond_self], ?_, ?_, ?_, ?_, ?_, ?_⟩
        · exact fb0.alloc
        · exact fb1.alloc
        · exact belowAlloc fB
        · simp only [World.size_alloc]; omega
        · intro _; exact ⟨Blk.new rfl, fL⟩
        · intro _; rfl
      · have ge11 : gg11 = false := hi2
        have ge8 : gg8 = true := inv_dep ho hall 8 (by kernel_rfl)
        have ge10 : gg10 = true := inv_dep ho hall 10 (by kernel_rfl)
        clear hall hi1 hi2
        subst ge11 ge8 ge10
        have ho2 := ho
        simp only [List.getElem?_toArray, List.getElem?_cons_zero, List.getElem?_cons_succ] at ho2
        have ho3 := Option.some.inj ho2; clear ho2; subst ho3
        obtain ⟨p10, q10⟩ := f10 rfl
        obtain ⟨ra10, rb10⟩ := p10.read
        have rl10 := p10.lt
        obtain ⟨ba0, bb0⟩ := fb0.read; have bl0 := fb0.lt
        obtain ⟨ba1, bb1⟩ := fb1.read; have bl1 := fb1.lt
        have rl10 := p10.lt
        skip
        simp only [Act.put, List.setIfInBounds_toArray, List.set_cons_zero, List.set_cons_succ]
        simp only [cond_true, cond_false]
        refine inv_op ho (by kernel_rfl) (fun K hK => ?_)
        clear ho
        go_simp
        refine hK.out _ _ ?_
        unfold Ti0
        refine ⟨gg0, gg1, gg2, gg3, gg4, gg5, gg6, gg7, true, gg9, true, true, gg12, x10, rfl, by simp only [Act.put, List.setIfInBounds_toArray, List.set_cons_zero, List.set_cons_succ, cond_true, cond_false, Bool.cond_self], ?_, ?_, ?_, ?_, ?_, ?_⟩
        · (repeat' (first | (with_reducible assumption) | ((with_reducible refine Blk.new ?_); first | rfl | (simp; done)) | (with_reducible refine Blk.later (by assumption) ?_) | (with_reducible refine Blk.alloc ?_) | (with_reducible refine Blk.drewN ?_) | (with_reducible refine Blk.drew ?_) | (with_reducible refine Blk.other ?_ (by first | omega | (simp; done) | (simp; omega)))))
        · (repeat' (first | (with_reducible assumption) | ((with_reducible refine Blk.new ?_); first | rfl | (simp; done)) | (with_reducible refine Blk.later (by assumption) ?_) | (with_reducible refine Blk.alloc ?_) | (with_reducible refine Blk.drewN ?_) | (with_reducible refine Blk.drew ?_) | (with_reducible refine Blk.other ?_ (by first | omega | (simp; done) | (simp; omega)))))
        · (repeat' (first | (with_reducible exact Below.refl _ _) | (with_reducible assumption) | (with_reducible refine belowThru ?_ (by assumption)) | (with_reducible refine belowAlloc ?_) | (with_reducible refine Below.setCell ?_ (by first | omega | (simp; done) | (simp; omega)) _) | (with_reducible refine Below.drew ?_) | (with_reducible refine below_drewN ?_ _)))
        · first | exact fL | (simp; omega)
        · intro _; exact ⟨by exact Blk.set (Blk.set (Blk.set (Blk.set (p10)))), q10⟩
        · intro _; rfl
      · have ge12 : gg12 = false := hi2
        have ge9 : gg9 = true := inv_dep ho hall 9 (by kernel_rfl)
        clear hall hi1 hi2
        subst ge12 ge9
        have ho2 := ho
        simp only [List.getElem?_toArray, List.getElem?_cons_zero, List.getElem?_cons_succ] at ho2
        have ho3 := Option.some.inj ho2; clear ho2; subst ho3
        obtain ⟨ba0, bb0⟩ := fb0.read; have bl0 := fb0.lt
        obtain ⟨ba1, bb1⟩ := fb1.read; have bl1 := fb1.lt
        simp only [Act.put, List.setIfInBounds_toArray, List.set_cons_zero, List.set_cons_succ]
        simp only [cond_true, cond_false]
        refine inv_op ho (by kernel_rfl) (fun K hK => ?_)
        clear ho
        go_simp
        refine hK.out _ _ ?_
        unfold Ti0
        refine ⟨gg0, gg1, gg2, gg3, gg4, gg5, gg6, gg7, gg8, true, gg10, gg11, true, x10, rfl, by simp only [Act.put, List.setIfInBounds_toArray, List.set_cons_zero, List.set_cons_succ, cond_true, cond_false, Bool.cond_self], ?_, ?_, ?_, ?_, ?_, ?_⟩
        · exact fb0
        · exact fb1
        · exact fB
        · exact fL
        · exact f10
        · exact s10
      · exfalso; simp at hi1; omega
    case hfin =>
      intro a w9 hI
      obtain ⟨gg0, gg1, gg2, gg3, gg4, gg5, gg6, gg7, gg8, gg9, gg10, gg11, gg12, x10, hL, rfl, fb0, fb1, fB, fL, f10, s10⟩ := hI
      have hL2 : #[true, true, true, true, true, true, true, true, true, true, true, true, true] = #[gg0, gg1, gg2, gg3, gg4, gg5, gg6, gg7, gg8, gg9, gg10, gg11, gg12] := hL
      cases hL2
      obtain ⟨p10, q10⟩ := f10 rfl
      clear f10 s10
      simp only [Act.put, List.setIfInBounds_toArray, List.set_cons_zero, List.set_cons_succ]
      simp only [cond_true]
      obtain ⟨Wq, rfl⟩ : ∃ z, z = w9 := ⟨_, rfl⟩
      have k0 := fb0; have k1 := fb1; have k2 : Blk Wq x10 #[.int .i64 m1, .int .i64 m2, .int .i64 m3, .int .i64 m4] 35 := p10
      have hBw : Below w.heap.size w Wq := belowThru hBw (by (repeat' (first | (with_reducible exact Below.refl _ _) | (with_reducible assumption) | (with_reducible refine belowThru ?_ (by assumption)) | (with_reducible refine belowAlloc ?_) | (with_reducible refine Below.setCell ?_ (by first | omega | (simp; done) | (simp; omega)) _) | (with_reducible refine Below.drew ?_) | (with_reducible refine below_drewN ?_ _))))
      replace HM : Hid (VRow Wq a2 (n + 1) (vs ++ [(X, Z, lo, hi)])) := HM.out.later (by (repeat' (first | (with_reducible exact Below.refl _ _) | (with_reducible assumption) | (with_reducible refine belowThru ?_ (by assumption)) | (with_reducible refine belowAlloc ?_) | (with_reducible refine Below.setCell ?_ (by first | omega | (simp; done) | (simp; omega)) _) | (with_reducible refine Below.drew ?_) | (with_reducible refine below_drewN ?_ _))))
      obtain ⟨a0, b0⟩ := k0.read; have y0 := k0.lt
      obtain ⟨a1, b1⟩ := k1.read; have y1 := k1.lt
      obtain ⟨a2, b2⟩ := k2.read; have y2 := k2.lt
      clear fb0 fb1 p10 fB
      go_wp2_with fail
      refine (HG.out _ _ _ hc2 (HM.out.later (by (repeat' (first | (with_reducible exact Below.refl _ _) | (with_reducible assumption) | (with_reducible refine belowThru ?_ (by assumption)) | (with_reducible refine belowAlloc ?_) | (with_reducible refine Below.setCell ?_ (by first | omega | (simp; done) | (simp; omega)) _) | (with_reducible refine Below.drew ?_) | (with_reducible refine below_drewN ?_ _)))))).mono ?_
      rintro e w21 ⟨rfl, hb⟩
      have kn0 : Blk w21 (w.heap.size) #[.int .i64 X, .int .i64 Z, .int .i64 lo, .int .i64 hi] 45 := Blk.later hb (by (repeat' (first | (with_reducible assumption) | (with_reducible refine Blk.set2 ?_) | ((with_reducible refine Blk.new ?_); first | rfl | (simp; done)) | (with_reducible refine Blk.later (by assumption) ?_) | (with_reducible refine Blk.alloc ?_) | (with_reducible refine Blk.drewN ?_) | (with_reducible refine Blk.drew ?_) | (with_reducible refine Blk.other ?_ (by first | omega | (simp; done) | (simp; omega))))))
      have kn1 : Blk w21 (w2.heap.size) #[.int .i64 r1, .int .i64 r2, .int .i64 r3, .int .i64 r4] 35 := Blk.later hb (by (repeat' (first | (with_reducible assumption) | (with_reducible refine Blk.set2 ?_) | ((with_reducible refine Blk.new ?_); first | rfl | (simp; done)) | (with_reducible refine Blk.later (by assumption) ?_) | (with_reducible refine Blk.alloc ?_) | (with_reducible refine Blk.drewN ?_) | (with_reducible refine Blk.drew ?_) | (with_reducible refine Blk.other ?_ (by first | omega | (simp; done) | (simp; omega))))))
      have kn2 : Blk w21 (x10) #[.int .i64 m1, .int .i64 m2, .int .i64 m3, .int .i64 m4] 35 := Blk.later hb (by (repeat' (first | (with_reducible assumption) | (with_reducible refine Blk.set2 ?_) | ((with_reducible refine Blk.new ?_); first | rfl | (simp; done)) | (with_reducible refine Blk.later (by assumption) ?_) | (with_reducible refine Blk.alloc ?_) | (with_reducible refine Blk.drewN ?_) | (with_reducible refine Blk.drew ?_) | (with_reducible refine Blk.other ?_ (by first | omega | (simp; done) | (simp; omega))))))
      clear k0 a0 b0 y0
      clear k1 a1 b1 y1
      clear k2 a2 b2 y2
      have k0 := kn0; clear kn0; obtain ⟨a0, b0⟩ := k0.read; have y0 := k0.lt
      have k1 := kn1; clear kn1; obtain ⟨a1, b1⟩ := k1.read; have y1 := k1.lt
      have k2 := kn2; clear kn2; obtain ⟨a2, b2⟩ := k2.read; have y2 := k2.lt
      replace hBw : Below w.heap.size w w21 := belowThru (by (repeat' (first | (with_reducible exact Below.refl _ _) | (with_reducible assumption) | (with_reducible refine belowThru ?_ (by assumption)) | (with_reducible refine belowAlloc ?_) | (with_reducible refine Below.setCell ?_ (by first | omega | (simp; done) | (simp; omega)) _) | (with_reducible refine Below.drew ?_) | (with_reducible refine below_drewN ?_ _)))) hb
      have hzw21 := hBw.size
      clear hb
      go_wp2_with fail
      go_ret
      exact ⟨rfl, by (repeat' (first | (with_reducible exact Below.refl _ _) | (with_reducible assumption) | (with_reducible refine belowThru ?_ (by assumption)) | (with_reducible refine belowAlloc ?_) | (with_reducible refine Below.setCell ?_ (by first | omega | (simp; done) | (simp; omega)) _) | (with_reducible refine Below.drew ?_) | (with_reducible refine below_drewN ?_ _)))⟩
end Go.Proofs.Ytbdcmdofmokoeaa
