/-
  GaugeMeets: the walk of the law.
-/
import Derived.Test.YtdimmnoflenfhaaM9
import Derived.Test.YtdimmnoflenfhaaM5
namespace Go.Proofs.Ytdimmnoflenfhaa
open Go.RowKit Go.Shelf
set_option linter.unusedVariables false
set_option linter.unusedSimpArgs false

set_option maxRecDepth 100000 in
set_option maxHeartbeats 16000000 in
theorem meets_1 (f1 f2 f3 f4 c1 c2 c3 c4 g1 g2 g3 g4 h1 h2 h3 h4 x1 x2 x3 x4 o1 o2 o3 o4 n E : Int) (w : World) (hE : (E != 0) = true) (HA : Hid (∀ w, Calls Try.prog 17 #[.agg #[.int .i64 f1, .int .i64 f2, .int .i64 f3, .int .i64 f4, .int .i64 c1, .int .i64 c2, .int .i64 c3, .int .i64 c4], .agg #[.int .i64 g1, .int .i64 g2, .int .i64 g3, .int .i64 g4, .int .i64 h1, .int .i64 h2, .int .i64 h3, .int .i64 h4]] w fun e w' => e = .returned (.tuple #[.agg #[.int .i64 x1, .int .i64 x2, .int .i64 x3, .int .i64 x4], .agg #[.int .i64 o1, .int .i64 o2, .int .i64 o3, .int .i64 o4], .int .i64 E]) ∧ Below w.heap.size w w')) :
    Calls Try.prog 8 #[.agg #[.int .i64 f1, .int .i64 f2, .int .i64 f3, .int .i64 f4, .int .i64 c1, .int .i64 c2, .int .i64 c3, .int .i64 c4], .agg #[.int .i64 g1, .int .i64 g2, .int .i64 g3, .int .i64 g4, .int .i64 h1, .int .i64 h2, .int .i64 h3, .int .i64 h4], .int .u8 n] w fun e w' => e = .returned (.bool true) ∧ Below w.heap.size w w' := by
  go_enter Try.func8, Try.ntmps8
  go_wp2_with fail
  refine (alive_true _).mono ?_
  rintro e w1 ⟨rfl, hb⟩
  have kn0 : Blk w1 (w.heap.size) #[.int .i64 f1, .int .i64 f2, .int .i64 f3, .int .i64 f4, .int .i64 c1, .int .i64 c2, .int .i64 c3, .int .i64 c4] 39 := Blk.later hb (by (repeat' (first | (with_reducible assumption) | (with_reducible refine Blk.set2 ?_) | ((with_reducible refine Blk.new ?_); first | rfl | (simp; done)) | (with_reducible refine Blk.later (by assumption) ?_) | (with_reducible refine Blk.alloc ?_) | (with_reducible refine Blk.drewN ?_) | (with_reducible refine Blk.drew ?_) | (with_reducible refine Blk.other ?_ (by first | omega | (simp; done) | (simp; omega))))))
  have kn1 : Blk w1 (w.heap.size + 1) #[.int .i64 g1, .int .i64 g2, .int .i64 g3, .int .i64 g4, .int .i64 h1, .int .i64 h2, .int .i64 h3, .int .i64 h4] 39 := Blk.later hb (by (repeat' (first | (with_reducible assumption) | (with_reducible refine Blk.set2 ?_) | ((with_reducible refine Blk.new ?_); first | rfl | (simp; done)) | (with_reducible refine Blk.later (by assumption) ?_) | (with_reducible refine Blk.alloc ?_) | (with_reducible refine Blk.drewN ?_) | (with_reducible refine Blk.drew ?_) | (with_reducible refine Blk.other ?_ (by first | omega | (simp; done) | (simp; omega))))))
  have kn2 : Blk w1 (w.heap.size + 1 + 1) #[.int .u8 n] 5 := Blk.later hb (by (repeat' (first | (with_reducible assumption) | (with_reducible refine Blk.set2 ?_) | ((with_reducible refine Blk.new ?_); first | rfl | (simp; done)) | (with_reducible refine Blk.later (by assumption) ?_) | (with_reducible refine Blk.alloc ?_) | (with_reducible refine Blk.drewN ?_) | (with_reducible refine Blk.drew ?_) | (with_reducible refine Blk.other ?_ (by first | omega | (simp; done) | (simp; omega))))))
  have k0 := kn0; clear kn0; obtain ⟨a0, b0⟩ := k0.read; have y0 := k0.lt
  have k1 := kn1; clear kn1; obtain ⟨a1, b1⟩ := k1.read; have y1 := k1.lt
  have k2 := kn2; clear kn2; obtain ⟨a2, b2⟩ := k2.read; have y2 := k2.lt
  have hBw : Below w.heap.size w w1 := by (repeat' (first | (with_reducible exact Below.refl _ _) | (with_reducible assumption) | (with_reducible refine belowThru ?_ (by assumption)) | (with_reducible refine belowAlloc ?_) | (with_reducible refine Below.setCell ?_ (by first | omega | (simp; done) | (simp; omega)) _) | (with_reducible refine Below.drew ?_) | (with_reducible refine below_drewN ?_ _)))
  have hzw1 := hBw.size
  clear hb
  go_wp2_with fail
  refine (HA.out _).mono ?_
  rintro e w2 ⟨rfl, hb⟩
  have kn0 : Blk w2 (w.heap.size) #[.int .i64 f1, .int .i64 f2, .int .i64 f3, .int .i64 f4, .int .i64 c1, .int .i64 c2, .int .i64 c3, .int .i64 c4] 39 := Blk.later hb (by (repeat' (first | (with_reducible assumption) | (with_reducible refine Blk.set2 ?_) | ((with_reducible refine Blk.new ?_); first | rfl | (simp; done)) | (with_reducible refine Blk.later (by assumption) ?_) | (with_reducible refine Blk.alloc ?_) | (with_reducible refine Blk.drewN ?_) | (with_reducible refine Blk.drew ?_) | (with_reducible refine Blk.other ?_ (by first | omega | (simp; done) | (simp; omega))))))
  have kn1 : Blk w2 (w.heap.size + 1) #[.int .i64 g1, .int .i64 g2, .int .i64 g3, .int .i64 g4, .int .i64 h1, .int .i64 h2, .int .i64 h3, .int .i64 h4] 39 := Blk.later hb (by (repeat' (first | (with_reducible assumption) | (with_reducible refine Blk.set2 ?_) | ((with_reducible refine Blk.new ?_); first | rfl | (simp; done)) | (with_reducible refine Blk.later (by assumption) ?_) | (with_reducible refine Blk.alloc ?_) | (with_reducible refine Blk.drewN ?_) | (with_reducible refine Blk.drew ?_) | (with_reducible refine Blk.other ?_ (by first | omega | (simp; done) | (simp; omega))))))
  have kn2 : Blk w2 (w.heap.size + 1 + 1) #[.int .u8 n] 5 := Blk.later hb (by (repeat' (first | (with_reducible assumption) | (with_reducible refine Blk.set2 ?_) | ((with_reducible refine Blk.new ?_); first | rfl | (simp; done)) | (with_reducible refine Blk.later (by assumption) ?_) | (with_reducible refine Blk.alloc ?_) | (with_reducible refine Blk.drewN ?_) | (with_reducible refine Blk.drew ?_) | (with_reducible refine Blk.other ?_ (by first | omega | (simp; done) | (simp; omega))))))
  clear k0 a0 b0 y0
  clear k1 a1 b1 y1
  clear k2 a2 b2 y2
  have k0 := kn0; clear kn0; obtain ⟨a0, b0⟩ := k0.read; have y0 := k0.lt
  have k1 := kn1; clear kn1; obtain ⟨a1, b1⟩ := k1.read; have y1 := k1.lt
  have k2 := kn2; clear kn2; obtain ⟨a2, b2⟩ := k2.read; have y2 := k2.lt
  replace hBw : Below w.heap.size w w2 := belowThru (by (repeat' (first | (with_reducible exact Below.refl _ _) | (with_reducible assumption) | (with_reducible refine belowThru ?_ (by assumption)) | (with_reducible refine belowAlloc ?_) | (with_reducible refine Below.setCell ?_ (by first | omega | (simp; done) | (simp; omega)) _) | (with_reducible refine Below.drew ?_) | (with_reducible refine below_drewN ?_ _)))) hb
  have hzw2 := hBw.size
  clear hb
  go_wp2_with fail
  go_ret
  exact ⟨rfl, by (repeat' (first | (with_reducible exact Below.refl _ _) | (with_reducible assumption) | (with_reducible refine belowThru ?_ (by assumption)) | (with_reducible refine belowAlloc ?_) | (with_reducible refine Below.setCell ?_ (by first | omega | (simp; done) | (simp; omega)) _) | (with_reducible refine Below.drew ?_) | (with_reducible refine below_drewN ?_ _)))⟩
/-- What holds of the region whichever operations have come up. -/
def MeeI4 (f1 f2 f3 f4 c1 c2 c3 c4 g1 g2 g3 g4 h1 h2 h3 h4 x1 x2 x3 x4 o1 o2 o3 o4 n P1 P2 Q1 Q2 R1 R2 S1 S2 u1 u2 u3 u4 v1 v2 v3 v4 : Int) (w w2 Wp : World) (i28 i29 i30 i31 i32 i33 i34 i35 i36 i37 i38 i39 i40 i41 i42 i43 i44 i45 i46 i27 i47 i48 i49 i12 i13 i14 : Value) (b9 : Act) (L9 : Array Bool) (a9 : Act) (w9 : World) : Prop :=
  ∃ (gg0 gg1 gg2 gg3 gg4 gg5 gg6 gg7 gg8 gg9 gg10 gg11 gg12 gg13 gg14 gg15 gg16 gg17 gg18 gg19 gg20 gg21 gg22 gg23 gg24 gg25 gg26 gg27 : Bool) (x23 x24 : Nat), L9 = #[gg0, gg1, gg2, gg3, gg4, gg5, gg6, gg7, gg8, gg9, gg10, gg11, gg12, gg13, gg14, gg15, gg16, gg17, gg18, gg19, gg20, gg21, gg22, gg23, gg24, gg25, gg26, gg27] ∧ a9 = ((((((((((((((((((((((((((b9).put (some 28) (cond gg0 (.func (.func 39) #[] #[.pointer (some ⟨w.heap.size + 1 + 1, 0, none⟩)]) (i28))).put (some 29) (cond gg1 (.pointer (some ⟨w.heap.size, 0, none⟩)) (i29))).put (some 30) (cond gg2 (.agg #[.int .i64 f1, .int .i64 f2, .int .i64 f3, .int .i64 f4]) (i30))).put (some 31) (cond gg3 (.agg #[.int .i64 P1, .int .i64 P2, .int .i64 P1, .int .i64 P2]) (i31))).put (some 32) (cond gg4 (.func (.func 39) #[] #[.pointer (some ⟨w.heap.size + 1 + 1, 0, none⟩)]) (i32))).put (some 33) (cond gg5 (.pointer (some ⟨w.heap.size, 4, none⟩)) (i33))).put (some 34) (cond gg6 (.agg #[.int .i64 c1, .int .i64 c2, .int .i64 c3, .int .i64 c4]) (i34))).put (some 35) (cond gg7 (.agg #[.int .i64 Q1, .int .i64 Q2, .int .i64 Q1, .int .i64 Q2]) (i35))).put (some 36) (cond gg8 (.agg #[.int .i64 P1, .int .i64 P2, .int .i64 P1, .int .i64 P2, .int .i64 Q1, .int .i64 Q2, .int .i64 Q1, .int .i64 Q2]) (i36))).put (some 37) (cond gg9 (.func (.func 39) #[] #[.pointer (some ⟨w.heap.size + 1 + 1, 0, none⟩)]) (i37))).put (some 38) (cond gg10 (.pointer (some ⟨(w.heap.size + 1), 0, none⟩)) (i38))).put (some 39) (cond gg11 (.agg #[.int .i64 g1, .int .i64 g2, .int .i64 g3, .int .i64 g4]) (i39))).put (some 40) (cond gg12 (.agg #[.int .i64 R1, .int .i64 R2, .int .i64 R1, .int .i64 R2]) (i40))).put (some 41) (cond gg13 (.func (.func 39) #[] #[.pointer (some ⟨w.heap.size + 1 + 1, 0, none⟩)]) (i41))).put (some 42) (cond gg14 (.pointer (some ⟨(w.heap.size + 1), 4, none⟩)) (i42))).put (some 43) (cond gg15 (.agg #[.int .i64 h1, .int .i64 h2, .int .i64 h3, .int .i64 h4]) (i43))).put (some 44) (cond gg16 (.agg #[.int .i64 S1, .int .i64 S2, .int .i64 S1, .int .i64 S2]) (i44))).put (some 45) (cond gg17 (.agg #[.int .i64 R1, .int .i64 R2, .int .i64 R1, .int .i64 R2, .int .i64 S1, .int .i64 S2, .int .i64 S1, .int .i64 S2]) (i45))).put (some 46) (cond gg18 (.tuple #[.agg #[.int .i64 u1, .int .i64 u2, .int .i64 u3, .int .i64 u4], .agg #[.int .i64 v1, .int .i64 v2, .int .i64 v3, .int .i64 v4], .int .i64 4]) (i46))).put (some 27) (cond gg19 (.tuple #[.agg #[.int .i64 u1, .int .i64 u2, .int .i64 u3, .int .i64 u4], .agg #[.int .i64 v1, .int .i64 v2, .int .i64 v3, .int .i64 v4], .int .i64 4]) (i27))).put (some 47) (cond gg20 (.agg #[.int .i64 u1, .int .i64 u2, .int .i64 u3, .int .i64 u4]) (i47))).put (some 48) (cond gg21 (.agg #[.int .i64 v1, .int .i64 v2, .int .i64 v3, .int .i64 v4]) (i48))).put (some 49) (cond gg22 (.int .i64 4) (i49))).put (some 12) (cond gg23 (.pointer (some ⟨x23, 0, none⟩)) (i12))).put (some 13) (cond gg24 (.pointer (some ⟨x24, 0, none⟩)) (i13))).put (some 14) (cond gg27 (.int .i64 4) (i14)) ∧ Blk w9 w.heap.size #[.int .i64 f1, .int .i64 f2, .int .i64 f3, .int .i64 f4, .int .i64 c1, .int .i64 c2, .int .i64 c3, .int .i64 c4] 39 ∧ Blk w9 (w.heap.size + 1) #[.int .i64 g1, .int .i64 g2, .int .i64 g3, .int .i64 g4, .int .i64 h1, .int .i64 h2, .int .i64 h3, .int .i64 h4] 39 ∧ Blk w9 (w.heap.size + 1 + 1) #[.int .u8 n] 5 ∧ Blk w9 (w2.heap.size) #[.int .i64 x1, .int .i64 x2, .int .i64 x3, .int .i64 x4] 30 ∧ Blk w9 (w2.heap.size + 1) #[.int .i64 o1, .int .i64 o2, .int .i64 o3, .int .i64 o4] 30 ∧ Below Wp.heap.size Wp w9 ∧ Wp.heap.size ≤ w9.heap.size ∧ (gg23 = true → Blk w9 x23 (cond gg25 #[.int .i64 u1, .int .i64 u2, .int .i64 u3, .int .i64 u4] #[.int .i64 0, .int .i64 0, .int .i64 0, .int .i64 0]) 30 ∧ Wp.heap.size ≤ x23) ∧ (gg24 = true → Blk w9 x24 (cond gg26 #[.int .i64 v1, .int .i64 v2, .int .i64 v3, .int .i64 v4] #[.int .i64 0, .int .i64 0, .int .i64 0, .int .i64 0]) 30 ∧ Wp.heap.size ≤ x24) ∧ (gg23 = true → gg24 = true → x23 ≠ x24) ∧ (gg25 = true → gg23 = true) ∧ (gg26 = true → gg24 = true)
set_option maxRecDepth 100000 in
set_option maxHeartbeats 16000000 in
theorem meets_2 (f1 f2 f3 f4 c1 c2 c3 c4 g1 g2 g3 g4 h1 h2 h3 h4 x1 x2 x3 x4 o1 o2 o3 o4 n P1 P2 Q1 Q2 R1 R2 S1 S2 u1 u2 u3 u4 v1 v2 v3 v4 : Int) (w : World) (HA : Hid (∀ w, Calls Try.prog 17 #[.agg #[.int .i64 f1, .int .i64 f2, .int .i64 f3, .int .i64 f4, .int .i64 c1, .int .i64 c2, .int .i64 c3, .int .i64 c4], .agg #[.int .i64 g1, .int .i64 g2, .int .i64 g3, .int .i64 g4, .int .i64 h1, .int .i64 h2, .int .i64 h3, .int .i64 h4]] w fun e w' => e = .returned (.tuple #[.agg #[.int .i64 x1, .int .i64 x2, .int .i64 x3, .int .i64 x4], .agg #[.int .i64 o1, .int .i64 o2, .int .i64 o3, .int .i64 o4], .int .i64 0]) ∧ Below w.heap.size w w')) (HO0 : Hid (∀ (B : Nat) (w : World), w.cell? ⟨B, 0, none⟩ = some (.int .u8 n) → Calls Try.prog 39 #[.agg #[.int .i64 f1, .int .i64 f2, .int .i64 f3, .int .i64 f4], .int .i64 0, .pointer (some ⟨B, 0, none⟩)] w fun e w' => e = .returned (.agg #[.int .i64 P1, .int .i64 P2, .int .i64 P1, .int .i64 P2]) ∧ Below w.heap.size w w')) (HO1 : Hid (∀ (B : Nat) (w : World), w.cell? ⟨B, 0, none⟩ = some (.int .u8 n) → Calls Try.prog 39 #[.agg #[.int .i64 c1, .int .i64 c2, .int .i64 c3, .int .i64 c4], .int .i64 1, .pointer (some ⟨B, 0, none⟩)] w fun e w' => e = .returned (.agg #[.int .i64 Q1, .int .i64 Q2, .int .i64 Q1, .int .i64 Q2]) ∧ Below w.heap.size w w')) (HO2 : Hid (∀ (B : Nat) (w : World), w.cell? ⟨B, 0, none⟩ = some (.int .u8 n) → Calls Try.prog 39 #[.agg #[.int .i64 g1, .int .i64 g2, .int .i64 g3, .int .i64 g4], .int .i64 2, .pointer (some ⟨B, 0, none⟩)] w fun e w' => e = .returned (.agg #[.int .i64 R1, .int .i64 R2, .int .i64 R1, .int .i64 R2]) ∧ Below w.heap.size w w')) (HO3 : Hid (∀ (B : Nat) (w : World), w.cell? ⟨B, 0, none⟩ = some (.int .u8 n) → Calls Try.prog 39 #[.agg #[.int .i64 h1, .int .i64 h2, .int .i64 h3, .int .i64 h4], .int .i64 3, .pointer (some ⟨B, 0, none⟩)] w fun e w' => e = .returned (.agg #[.int .i64 S1, .int .i64 S2, .int .i64 S1, .int .i64 S2]) ∧ Below w.heap.size w w')) (HB : Hid (∀ w, Calls Try.prog 17 #[.agg #[.int .i64 P1, .int .i64 P2, .int .i64 P1, .int .i64 P2, .int .i64 Q1, .int .i64 Q2, .int .i64 Q1, .int .i64 Q2], .agg #[.int .i64 R1, .int .i64 R2, .int .i64 R1, .int .i64 R2, .int .i64 S1, .int .i64 S2, .int .i64 S1, .int .i64 S2]] w fun e w' => e = .returned (.tuple #[.agg #[.int .i64 u1, .int .i64 u2, .int .i64 u3, .int .i64 u4], .agg #[.int .i64 v1, .int .i64 v2, .int .i64 v3, .int .i64 v4], .int .i64 4]) ∧ Below w.heap.size w w')) :
    Calls Try.prog 8 #[.agg #[.int .i64 f1, .int .i64 f2, .int .i64 f3, .int .i64 f4, .int .i64 c1, .int .i64 c2, .int .i64 c3, .int .i64 c4], .agg #[.int .i64 g1, .int .i64 g2, .int .i64 g3, .int .i64 g4, .int .i64 h1, .int .i64 h2, .int .i64 h3, .int .i64 h4], .int .u8 n] w fun e w' => e = .returned (.bool true) ∧ Below w.heap.size w w' := by
  go_enter Try.func8, Try.ntmps8
  go_wp2_with fail
  refine (alive_true _).mono ?_
  rintro e w1 ⟨rfl, hb⟩
  have kn0 : Blk w1 (w.heap.size) #[.int .i64 f1, .int .i64 f2, .int .i64 f3, .int .i64 f4, .int .i64 c1, .int .i64 c2, .int .i64 c3, .int .i64 c4] 39 := Blk.later hb (by (repeat' (first | (with_reducible assumption) | (with_reducible refine Blk.set2 ?_) | ((with_reducible refine Blk.new ?_); first | rfl | (simp; done)) | (with_reducible refine Blk.later (by assumption) ?_) | (with_reducible refine Blk.alloc ?_) | (with_reducible refine Blk.drewN ?_) | (with_reducible refine Blk.drew ?_) | (with_reducible refine Blk.other ?_ (by first | omega | (simp; done) | (simp; omega))))))
  have kn1 : Blk w1 (w.heap.size + 1) #[.int .i64 g1, .int .i64 g2, .int .i64 g3, .int .i64 g4, .int .i64 h1, .int .i64 h2, .int .i64 h3, .int .i64 h4] 39 := Blk.later hb (by (repeat' (first | (with_reducible assumption) | (with_reducible refine Blk.set2 ?_) | ((with_reducible refine Blk.new ?_); first | rfl | (simp; done)) | (with_reducible refine Blk.later (by assumption) ?_) | (with_reducible refine Blk.alloc ?_) | (with_reducible refine Blk.drewN ?_) | (with_reducible refine Blk.drew ?_) | (with_reducible refine Blk.other ?_ (by first | omega | (simp; done) | (simp; omega))))))
  have kn2 : Blk w1 (w.heap.size + 1 + 1) #[.int .u8 n] 5 := Blk.later hb (by (repeat' (first | (with_reducible assumption) | (with_reducible refine Blk.set2 ?_) | ((with_reducible refine Blk.new ?_); first | rfl | (simp; done)) | (with_reducible refine Blk.later (by assumption) ?_) | (with_reducible refine Blk.alloc ?_) | (with_reducible refine Blk.drewN ?_) | (with_reducible refine Blk.drew ?_) | (with_reducible refine Blk.other ?_ (by first | omega | (simp; done) | (simp; omega))))))
  have k0 := kn0; clear kn0; obtain ⟨a0, b0⟩ := k0.read; have y0 := k0.lt
  have k1 := kn1; clear kn1; obtain ⟨a1, b1⟩ := k1.read; have y1 := k1.lt
  have k2 := kn2; clear kn2; obtain ⟨a2, b2⟩ := k2.read; have y2 := k2.lt
  have hBw : Below w.heap.size w w1 := by (repeat' (first | (with_reducible exact Below.refl _ _) | (with_reducible assumption) | (with_reducible refine belowThru ?_ (by assumption)) | (with_reducible refine belowAlloc ?_) | (with_reducible refine Below.setCell ?_ (by first | omega | (simp; done) | (simp; omega)) _) | (with_reducible refine Below.drew ?_) | (with_reducible refine below_drewN ?_ _)))
  have hzw1 := hBw.size
  clear hb
  go_wp2_with fail
  refine (HA.out _).mono ?_
  rintro e w2 ⟨rfl, hb⟩
  have kn0 : Blk w2 (w.heap.size) #[.int .i64 f1, .int .i64 f2, .int .i64 f3, .int .i64 f4, .int .i64 c1, .int .i64 c2, .int .i64 c3, .int .i64 c4] 39 := Blk.later hb (by (repeat' (first | (with_reducible assumption) | (with_reducible refine Blk.set2 ?_) | ((with_reducible refine Blk.new ?_); first | rfl | (simp; done)) | (with_reducible refine Blk.later (by assumption) ?_) | (with_reducible refine Blk.alloc ?_) | (with_reducible refine Blk.drewN ?_) | (with_reducible refine Blk.drew ?_) | (with_reducible refine Blk.other ?_ (by first | omega | (simp; done) | (simp; omega))))))
  have kn1 : Blk w2 (w.heap.size + 1) #[.int .i64 g1, .int .i64 g2, .int .i64 g3, .int .i64 g4, .int .i64 h1, .int .i64 h2, .int .i64 h3, .int .i64 h4] 39 := Blk.later hb (by (repeat' (first | (with_reducible assumption) | (with_reducible refine Blk.set2 ?_) | ((with_reducible refine Blk.new ?_); first | rfl | (simp; done)) | (with_reducible refine Blk.later (by assumption) ?_) | (with_reducible refine Blk.alloc ?_) | (with_reducible refine Blk.drewN ?_) | (with_reducible refine Blk.drew ?_) | (with_reducible refine Blk.other ?_ (by first | omega | (simp; done) | (simp; omega))))))
  have kn2 : Blk w2 (w.heap.size + 1 + 1) #[.int .u8 n] 5 := Blk.later hb (by (repeat' (first | (with_reducible assumption) | (with_reducible refine Blk.set2 ?_) | ((with_reducible refine Blk.new ?_); first | rfl | (simp; done)) | (with_reducible refine Blk.later (by assumption) ?_) | (with_reducible refine Blk.alloc ?_) | (with_reducible refine Blk.drewN ?_) | (with_reducible refine Blk.drew ?_) | (with_reducible refine Blk.other ?_ (by first | omega | (simp; done) | (simp; omega))))))
  clear k0 a0 b0 y0
  clear k1 a1 b1 y1
  clear k2 a2 b2 y2
  have k0 := kn0; clear kn0; obtain ⟨a0, b0⟩ := k0.read; have y0 := k0.lt
  have k1 := kn1; clear kn1; obtain ⟨a1, b1⟩ := k1.read; have y1 := k1.lt
  have k2 := kn2; clear kn2; obtain ⟨a2, b2⟩ := k2.read; have y2 := k2.lt
  replace hBw : Below w.heap.size w w2 := belowThru (by (repeat' (first | (with_reducible exact Below.refl _ _) | (with_reducible assumption) | (with_reducible refine belowThru ?_ (by assumption)) | (with_reducible refine belowAlloc ?_) | (with_reducible refine Below.setCell ?_ (by first | omega | (simp; done) | (simp; omega)) _) | (with_reducible refine Below.drew ?_) | (with_reducible refine below_drewN ?_ _)))) hb
  have hzw2 := hBw.size
  clear hb
  go_wp2_with fail
  obtain ⟨Wp, hWp⟩ : ∃ Wp, ((w2.alloc (.cells #[.int .i64 x1, .int .i64 x2, .int .i64 x3, .int .i64 x4] 30)).alloc (.cells #[.int .i64 o1, .int .i64 o2, .int .i64 o3, .int .i64 o4] 30)) = Wp := ⟨_, rfl⟩
  have kn0 : Blk Wp (w.heap.size) #[.int .i64 f1, .int .i64 f2, .int .i64 f3, .int .i64 f4, .int .i64 c1, .int .i64 c2, .int .i64 c3, .int .i64 c4] 39 := by rw [← hWp]; (repeat' (first | (with_reducible assumption) | ((with_reducible refine Blk.new ?_); first | rfl | (simp; done)) | (with_reducible refine Blk.later (by assumption) ?_) | (with_reducible refine Blk.alloc ?_) | (with_reducible refine Blk.drewN ?_) | (with_reducible refine Blk.drew ?_) | (with_reducible refine Blk.other ?_ (by first | omega | (simp; done) | (simp; omega)))))
  have kn1 : Blk Wp (w.heap.size + 1) #[.int .i64 g1, .int .i64 g2, .int .i64 g3, .int .i64 g4, .int .i64 h1, .int .i64 h2, .int .i64 h3, .int .i64 h4] 39 := by rw [← hWp]; (repeat' (first | (with_reducible assumption) | ((with_reducible refine Blk.new ?_); first | rfl | (simp; done)) | (with_reducible refine Blk.later (by assumption) ?_) | (with_reducible refine Blk.alloc ?_) | (with_reducible refine Blk.drewN ?_) | (with_reducible refine Blk.drew ?_) | (with_reducible refine Blk.other ?_ (by first | omega | (simp; done) | (simp; omega)))))
  have kn2 : Blk Wp (w.heap.size + 1 + 1) #[.int .u8 n] 5 := by rw [← hWp]; (repeat' (first | (with_reducible assumption) | ((with_reducible refine Blk.new ?_); first | rfl | (simp; done)) | (with_reducible refine Blk.later (by assumption) ?_) | (with_reducible refine Blk.alloc ?_) | (with_reducible refine Blk.drewN ?_) | (with_reducible refine Blk.drew ?_) | (with_reducible refine Blk.other ?_ (by first | omega | (simp; done) | (simp; omega)))))
  have kn3 : Blk Wp (w2.heap.size) #[.int .i64 x1, .int .i64 x2, .int .i64 x3, .int .i64 x4] 30 := by rw [← hWp]; (repeat' (first | (with_reducible assumption) | ((with_reducible refine Blk.new ?_); first | rfl | (simp; done)) | (with_reducible refine Blk.later (by assumption) ?_) | (with_reducible refine Blk.alloc ?_) | (with_reducible refine Blk.drewN ?_) | (with_reducible refine Blk.drew ?_) | (with_reducible refine Blk.other ?_ (by first | omega | (simp; done) | (simp; omega)))))
  have kn4 : Blk Wp (w2.heap.size + 1) #[.int .i64 o1, .int .i64 o2, .int .i64 o3, .int .i64 o4] 30 := by rw [← hWp]; (repeat' (first | (with_reducible assumption) | ((with_reducible refine Blk.new ?_); first | rfl | (simp; done)) | (with_reducible refine Blk.later (by assumption) ?_) | (with_reducible refine Blk.alloc ?_) | (with_reducible refine Blk.drewN ?_) | (with_reducible refine Blk.drew ?_) | (with_reducible refine Blk.other ?_ (by first | omega | (simp; done) | (simp; omega)))))
  replace hBw : Below w.heap.size w Wp := by rw [← hWp]; (repeat' (first | (with_reducible exact Below.refl _ _) | (with_reducible assumption) | (with_reducible refine belowThru ?_ (by assumption)) | (with_reducible refine belowAlloc ?_) | (with_reducible refine Below.setCell ?_ (by first | omega | (simp; done) | (simp; omega)) _) | (with_reducible refine Below.drew ?_) | (with_reducible refine below_drewN ?_ _)))
  clear k0 a0 b0 y0
  clear k1 a1 b1 y1
  clear k2 a2 b2 y2
  rw [hWp]
  clear hWp
  have k0 := kn0; clear kn0; have y0 := k0.lt
  have k1 := kn1; clear kn1; have y1 := k1.lt
  have k2 := kn2; clear kn2; have y2 := k2.lt
  have k3 := kn3; clear kn3; have y3 := k3.lt
  have k4 := kn4; clear kn4; have y4 := k4.lt
  refine wp_region_inv (MeeI4 f1 f2 f3 f4 c1 c2 c3 c4 g1 g2 g3 g4 h1 h2 h3 h4 x1 x2 x3 x4 o1 o2 o3 o4 n P1 P2 Q1 Q2 R1 R2 S1 S2 u1 u2 u3 u4 v1 v2 v3 v4 w w2 Wp ?i28 ?i29 ?i30 ?i31 ?i32 ?i33 ?i34 ?i35 ?i36 ?i37 ?i38 ?i39 ?i40 ?i41 ?i42 ?i43 ?i44 ?i45 ?i46 ?i27 ?i47 ?i48 ?i49 ?i12 ?i13 ?i14) (by kernel_rfl) (by kernel_rfl) ?hsz ?hst ?hstep ?hfin
  case hst =>
    unfold MeeI4
    refine ⟨false, false, false, false, false, false, false, false, false, false, false, false, false, false, false, false, false, false, false, false, false, false, false, false, false, false, false, false, 0, 0, rfl, ?_, ?_, ?_, ?_, ?_, ?_, ?_, ?_, ?_, ?_, ?_, ?_, ?_⟩
    · first | (simp only [Act.put, List.setIfInBounds_toArray, List.set_cons_zero, List.set_cons_succ, cond_false]; done) | (simp only [Act.put, List.setIfInBounds_toArray, List.set_cons_zero, List.set_cons_succ, cond_false]; rfl)
    all_goals (first | (intro h; cases h; done) | ((repeat' (first | (with_reducible assumption) | ((with_reducible refine Blk.new ?_); first | rfl | (simp; done)) | (with_reducible refine Blk.later (by assumption) ?_) | (with_reducible refine Blk.alloc ?_) | (with_reducible refine Blk.drewN ?_) | (with_reducible refine Blk.drew ?_) | (with_reducible refine Blk.other ?_ (by first | omega | (simp; done) | (simp; omega))))); done) | ((repeat' (first | (with_reducible exact Below.refl _ _) | (with_reducible assumption) | (with_reducible refine belowThru ?_ (by assumption)) | (with_reducible refine belowAlloc ?_) | (with_reducible refine Below.setCell ?_ (by first | omega | (simp; done) | (simp; omega)) _) | (with_reducible refine Below.drew ?_) | (with_reducible refine below_drewN ?_ _))); done) | (simp only [cond_false]; (repeat' (first | (with_reducible assumption) | ((with_reducible refine Blk.new ?_); first | rfl | (simp; done)) | (with_reducible refine Blk.later (by assumption) ?_) | (with_reducible refine Blk.alloc ?_) | (with_reducible refine Blk.drewN ?_) | (with_reducible refine Blk.drew ?_) | (with_reducible refine Blk.other ?_ (by first | omega | (simp; done) | (simp; omega))))); done) | (simp only [World.size_drew]; omega) | (simp only [World.size_drew] at *; omega) | (simp; done) | (simp; omega))
  case hsz =>
    intro L a w9 h
    obtain ⟨gg0, gg1, gg2, gg3, gg4, gg5, gg6, gg7, gg8, gg9, gg10, gg11, gg12, gg13, gg14, gg15, gg16, gg17, gg18, gg19, gg20, gg21, gg22, gg23, gg24, gg25, gg26, gg27, x23, x24, rfl, -⟩ := h; rfl
  case hstep =>
    intro L a w9 hI i hi
    obtain ⟨gg0, gg1, gg2, gg3, gg4, gg5, gg6, gg7, gg8, gg9, gg10, gg11, gg12, gg13, gg14, gg15, gg16, gg17, gg18, gg19, gg20, gg21, gg22, gg23, gg24, gg25, gg26, gg27, x23, x24, rfl, rfl, fb0, fb1, fb2, fb3, fb4, fB, fL, f23, f24, d23_24, s23, s24⟩ := hI
    obtain ⟨hi1, hi2, o, ho, hall⟩ := inv_mem hi
    clear hi
    rcases i with _ | _ | _ | _ | _ | _ | _ | _ | _ | _ | _ | _ | _ | _ | _ | _ | _ | _ | _ | _ | _ | _ | _ | _ | _ | _ | _ | _ | i
    · have ge0 : gg0 = false := hi2
      clear hall hi1 hi2
      subst ge0
      have ho2 := ho
      simp only [List.getElem?_toArray, List.getElem?_cons_zero, List.getElem?_cons_succ] at ho2
      have ho3 := Option.some.inj ho2; clear ho2; subst ho3
      obtain ⟨ba0, bb0⟩ := fb0.read; have bl0 := fb0.lt
      obtain ⟨ba1, bb1⟩ := fb1.read; have bl1 := fb1.lt
      obtain ⟨ba2, bb2⟩ := fb2.read; have bl2 := fb2.lt
      obtain ⟨ba3, bb3⟩ := fb3.read; have bl3 := fb3.lt
      obtain ⟨ba4, bb4⟩ := fb4.read; have bl4 := fb4.lt
      simp only [Act.put, List.setIfInBounds_toArray, List.set_cons_zero, List.set_cons_succ]
      simp only [cond_true, cond_false]
      refine inv_op ho (by kernel_rfl) (fun K hK => ?_)
      clear ho
      go_simp
      refine hK.out _ _ ?_
      unfold MeeI4
      refine ⟨true, gg1, gg2, gg3, gg4, gg5, gg6, gg7, gg8, gg9, gg10, gg11, gg12, gg13, gg14, gg15, gg16, gg17, gg18, gg19, gg20, gg21, gg22, gg23, gg24, gg25, gg26, gg27, x23, x24, rfl, by simp only [Act.put, List.setIfInBounds_toArray, List.set_cons_zero, List.set_cons_succ, cond_true, cond_false, Bool.cond_self], ?_, ?_, ?_, ?_, ?_, ?_, ?_, ?_, ?_, ?_, ?_, ?_⟩
      · exact fb0
      · exact fb1
      · exact fb2
      · exact fb3
      · exact fb4
      · exact fB
      · exact fL
      · exact f23
      · exact f24
      · exact d23_24
      · exact s23
      · exact s24
    · have ge1 : gg1 = false := hi2
      clear hall hi1 hi2
      subst ge1
      have ho2 := ho
      simp only [List.getElem?_toArray, List.getElem?_cons_zero, List.getElem?_cons_succ] at ho2
      have ho3 := Option.some.inj ho2; clear ho2; subst ho3
      obtain ⟨ba0, bb0⟩ := fb0.read; have bl0 := fb0.lt
      obtain ⟨ba1, bb1⟩ := fb1.read; have bl1 := fb1.lt
      obtain ⟨ba2, bb2⟩ := fb2.read; have bl2 := fb2.lt
      obtain ⟨ba3, bb3⟩ := fb3.read; have bl3 := fb3.lt
      obtain ⟨ba4, bb4⟩ := fb4.read; have bl4 := fb4.lt
      simp only [Act.put, List.setIfInBounds_toArray, List.set_cons_zero, List.set_cons_succ]
      simp only [cond_true, cond_false]
      refine inv_op ho (by kernel_rfl) (fun K hK => ?_)
      clear ho
      go_simp
      refine hK.out _ _ ?_
      unfold MeeI4
      refine ⟨gg0, true, gg2, gg3, gg4, gg5, gg6, gg7, gg8, gg9, gg10, gg11, gg12, gg13, gg14, gg15, gg16, gg17, gg18, gg19, gg20, gg21, gg22, gg23, gg24, gg25, gg26, gg27, x23, x24, rfl, by simp only [Act.put, List.setIfInBounds_toArray, List.set_cons_zero, List.set_cons_succ, cond_true, cond_false, Bool.cond_self], ?_, ?_, ?_, ?_, ?_, ?_, ?_, ?_, ?_, ?_, ?_, ?_⟩
      · exact fb0
      · exact fb1
      · exact fb2
      · exact fb3
      · exact fb4
      · exact fB
      · exact fL
      · exact f23
      · exact f24
      · exact d23_24
      · exact s23
      · exact s24
    · have ge2 : gg2 = false := hi2
      have ge1 : gg1 = true := inv_dep ho hall 1 (by kernel_rfl)
      clear hall hi1 hi2
      subst ge2 ge1
      have ho2 := ho
      simp only [List.getElem?_toArray, List.getElem?_cons_zero, List.getElem?_cons_succ] at ho2
      have ho3 := Option.some.inj ho2; clear ho2; subst ho3
      obtain ⟨ba0, bb0⟩ := fb0.read; have bl0 := fb0.lt
      obtain ⟨ba1, bb1⟩ := fb1.read; have bl1 := fb1.lt
      obtain ⟨ba2, bb2⟩ := fb2.read; have bl2 := fb2.lt
      obtain ⟨ba3, bb3⟩ := fb3.read; have bl3 := fb3.lt
      obtain ⟨ba4, bb4⟩ := fb4.read; have bl4 := fb4.lt
      simp only [Act.put, List.setIfInBounds_toArray, List.set_cons_zero, List.set_cons_succ]
      simp only [cond_true, cond_false]
      refine inv_op ho (by kernel_rfl) (fun K hK => ?_)
      clear ho
      go_simp
      refine hK.out _ _ ?_
      unfold MeeI4
      refine ⟨gg0, true, true, gg3, gg4, gg5, gg6, gg7, gg8, gg9, gg10, gg11, gg12, gg13, gg14, gg15, gg16, gg17, gg18, gg19, gg20, gg21, gg22, gg23, gg24, gg25, gg26, gg27, x23, x24, rfl, by simp only [Act.put, List.setIfInBounds_toArray, List.set_cons_zero, List.set_cons_succ, cond_true, cond_false, Bool.cond_self], ?_, ?_, ?_, ?_, ?_, ?_, ?_, ?_, ?_, ?_, ?_, ?_⟩
      · exact fb0
      · exact fb1
      · exact fb2
      · exact fb3
      · exact fb4
      · exact fB
      · exact fL
      · exact f23
      · exact f24
      · exact d23_24
      · exact s23
      · exact s24
    · have ge3 : gg3 = false := hi2
      have ge0 : gg0 = true := inv_dep ho hall 0 (by kernel_rfl)
      have ge2 : gg2 = true := inv_dep ho hall 2 (by kernel_rfl)
      clear hall hi1 hi2
      subst ge3 ge0 ge2
      have ho2 := ho
      simp only [List.getElem?_toArray, List.getElem?_cons_zero, List.getElem?_cons_succ] at ho2
      have ho3 := Option.some.inj ho2; clear ho2; subst ho3
      obtain ⟨ba0, bb0⟩ := fb0.read; have bl0 := fb0.lt
      obtain ⟨ba1, bb1⟩ := fb1.read; have bl1 := fb1.lt
      obtain ⟨ba2, bb2⟩ := fb2.read; have bl2 := fb2.lt
      obtain ⟨ba3, bb3⟩ := fb3.read; have bl3 := fb3.lt
      obtain ⟨ba4, bb4⟩ := fb4.read; have bl4 := fb4.lt
      simp only [Act.put, List.setIfInBounds_toArray, List.set_cons_zero, List.set_cons_succ]
      simp only [cond_true, cond_false]
      refine inv_op ho (by kernel_rfl) (fun K hK => ?_)
      clear ho
      go_simp
      go_at_call 39; (with_reducible refine (HO0.out _ _ (by rw [ba2]; simp)).mono ?_); rintro e w8 ⟨rfl, hb⟩
      refine hK.out _ _ ?_
      unfold MeeI4
      refine ⟨true, gg1, true, true, gg4, gg5, gg6, gg7, gg8, gg9, gg10, gg11, gg12, gg13, gg14, gg15, gg16, gg17, gg18, gg19, gg20, gg21, gg22, gg23, gg24, gg25, gg26, gg27, x23, x24, rfl, by simp only [Act.put, List.setIfInBounds_toArray, List.set_cons_zero, List.set_cons_succ, cond_true, cond_false, Bool.cond_self], ?_, ?_, ?_, ?_, ?_, ?_, ?_, ?_, ?_, ?_, ?_, ?_⟩
      · exact Blk.later hb fb0
      · exact Blk.later hb fb1
      · exact Blk.later hb fb2
      · exact Blk.later hb fb3
      · exact Blk.later hb fb4
      · exact belowThru fB hb
      · have := hb.size; omega
      · intro h; obtain ⟨p, q⟩ := f23 h; exact ⟨Blk.later hb p, q⟩
      · intro h; obtain ⟨p, q⟩ := f24 h; exact ⟨Blk.later hb p, q⟩
      · exact d23_24
      · exact s23
      · exact s24
    · have ge4 : gg4 = false := hi2
      clear hall hi1 hi2
      subst ge4
      have ho2 := ho
      simp only [List.getElem?_toArray, List.getElem?_cons_zero, List.getElem?_cons_succ] at ho2
      have ho3 := Option.some.inj ho2; clear ho2; subst ho3
      obtain ⟨ba0, bb0⟩ := fb0.read; have bl0 := fb0.lt
      obtain ⟨ba1, bb1⟩ := fb1.read; have bl1 := fb1.lt
      obtain ⟨ba2, bb2⟩ := fb2.read; have bl2 := fb2.lt
      obtain ⟨ba3, bb3⟩ := fb3.read; have bl3 := fb3.lt
      obtain ⟨ba4, bb4⟩ := fb4.read; have bl4 := fb4.lt
      simp only [Act.put, List.setIfInBounds_toArray, List.set_cons_zero, List.set_cons_succ]
      simp only [cond_true, cond_false]
      refine inv_op ho (by kernel_rfl) (fun K hK => ?_)
      clear ho
      go_simp
      refine hK.out _ _ ?_
      unfold MeeI4
      refine ⟨gg0, gg1, gg2, gg3, true, gg5, gg6, gg7, gg8, gg9, gg10, gg11, gg12, gg13, gg14, gg15, gg16, gg17, gg18, gg19, gg20, gg21, gg22, gg23, gg24, gg25, gg26, gg27, x23, x24, rfl, by simp only [Act.put, List.setIfInBounds_toArray, List.set_cons_zero, List.set_cons_succ, cond_true, cond_false, Bool.cond_self], ?_, ?_, ?_, ?_, ?_, ?_, ?_, ?_, ?_, ?_, ?_, ?_⟩
      · exact fb0
      · exact fb1
      · exact fb2
      · exact fb3
      · exact fb4
      · exact fB
      · exact fL
      · exact f23
      · exact f24
      · exact d23_24
      · exact s23
      · exact s24
    · have ge5 : gg5 = false := hi2
      clear hall hi1 hi2
      subst ge5
      have ho2 := ho
      simp only [List.getElem?_toArray, List.getElem?_cons_zero, List.getElem?_cons_succ] at ho2
      have ho3 := Option.some.inj ho2; clear ho2; subst ho3
      obtain ⟨ba0, bb0⟩ := fb0.read; have bl0 := fb0.lt
      obtain ⟨ba1, bb1⟩ := fb1.read; have bl1 := fb1.lt
      obtain ⟨ba2, bb2⟩ := fb2.read; have bl2 := fb2.lt
      obtain ⟨ba3, bb3⟩ := fb3.read; have bl3 := fb3.lt
      obtain ⟨ba4, bb4⟩ := fb4.read; have bl4 := fb4.lt
      simp only [Act.put, List.setIfInBounds_toArray, List.set_cons_zero, List.set_cons_succ]
      simp only [cond_true, cond_false]
      refine inv_op ho (by kernel_rfl) (fun K hK => ?_)
      clear ho
      go_simp
      refine hK.out _ _ ?_
      unfold MeeI4
      refine ⟨gg0, gg1, gg2, gg3, gg4, true, gg6, gg7, gg8, gg9, gg10, gg11, gg12, gg13, gg14, gg15, gg16, gg17, gg18, gg19, gg20, gg21, gg22, gg23, gg24, gg25, gg26, gg27, x23, x24, rfl, by simp only [Act.put, List.setIfInBounds_toArray, List.set_cons_zero, List.set_cons_succ, cond_true, cond_false, Bool.cond_self], ?_, ?_, ?_, ?_, ?_, ?_, ?_, ?_, ?_, ?_, ?_, ?_⟩
      · exact fb0
      · exact fb1
      · exact fb2
      · exact fb3
      · exact fb4
      · exact fB
      · exact fL
      · exact f23
      · exact f24
      · exact d23_24
      · exact s23
      · exact s24
    · have ge6 : gg6 = false := hi2
      have ge5 : gg5 = true := inv_dep ho hall 5 (by kernel_rfl)
      clear hall hi1 hi2
      subst ge6 ge5
      have ho2 := ho
      simp only [List.getElem?_toArray, List.getElem?_cons_zero, List.getElem?_cons_succ] at ho2
      have ho3 := Option.some.inj ho2; clear ho2; subst ho3
      obtain ⟨ba0, bb0⟩ := fb0.read; have bl0 := fb0.lt
      obtain ⟨ba1, bb1⟩ := fb1.read; have bl1 := fb1.lt
      obtain ⟨ba2, bb2⟩ := fb2.read; have bl2 := fb2.lt
      obtain ⟨ba3, bb3⟩ := fb3.read; have bl3 := fb3.lt
      obtain ⟨ba4, bb4⟩ := fb4.read; have bl4 := fb4.lt
      simp only [Act.put, List.setIfInBounds_toArray, List.set_cons_zero, List.set_cons_succ]
      simp only [cond_true, cond_false]
      refine inv_op ho (by kernel_rfl) (fun K hK => ?_)
      clear ho
      go_simp
      refine hK.out _ _ ?_
      unfold MeeI4
      refine ⟨gg0, gg1, gg2, gg3, gg4, true, true, gg7, gg8, gg9, gg10, gg11, gg12, gg13, gg14, gg15, gg16, gg17, gg18, gg19, gg20, gg21, gg22, gg23, gg24, gg25, gg26, gg27, x23, x24, rfl, by simp only [Act.put, List.setIfInBounds_toArray, List.set_cons_zero, List.set_cons_succ, cond_true, cond_false, Bool.cond_self], ?_, ?_, ?_, ?_, ?_, ?_, ?_, ?_, ?_, ?_, ?_, ?_⟩
      · exact fb0
      · exact fb1
      · exact fb2
      · exact fb3
      · exact fb4
      · exact fB
      · exact fL
      · exact f23
      · exact f24
      · exact d23_24
      · exact s23
      · exact s24
    · have ge7 : gg7 = false := hi2
      have ge4 : gg4 = true := inv_dep ho hall 4 (by kernel_rfl)
      have ge6 : gg6 = true := inv_dep ho hall 6 (by kernel_rfl)
      clear hall hi1 hi2
      subst ge7 ge4 ge6
      have ho2 := ho
      simp only [List.getElem?_toArray, List.getElem?_cons_zero, List.getElem?_cons_succ] at ho2
      have ho3 := Option.some.inj ho2; clear ho2; subst ho3
      obtain ⟨ba0, bb0⟩ := fb0.read; have bl0 := fb0.lt
      obtain ⟨ba1, bb1⟩ := fb1.read; have bl1 := fb1.lt
      obtain ⟨ba2, bb2⟩ := fb2.read; have bl2 := fb2.lt
      obtain ⟨ba3, bb3⟩ := fb3.read; have bl3 := fb3.lt
      obtain ⟨ba4, bb4⟩ := fb4.read; have bl4 := fb4.lt
      simp only [Act.put, List.setIfInBounds_toArray, List.set_cons_zero, List.set_cons_succ]
      simp only [cond_true, cond_false]
      refine inv_op ho (by kernel_rfl) (fun K hK => ?_)
      clear ho
      go_simp
      go_at_call 39; (with_reducible refine (HO1.out _ _ (by rw [ba2]; simp)).mono ?_); rintro e w8 ⟨rfl, hb⟩
      refine hK.out _ _ ?_
      unfold MeeI4
      refine ⟨gg0, gg1, gg2, gg3, true, gg5, true, true, gg8, gg9, gg10, gg11, gg12, gg13, gg14, gg15, gg16, gg17, gg18, gg19, gg20, gg21, gg22, gg23, gg24, gg25, gg26, gg27, x23, x24, rfl, by simp only [Act.put, List.setIfInBounds_toArray, List.set_cons_zero, List.set_cons_succ, cond_true, cond_false, Bool.cond_self], ?_, ?_, ?_, ?_, ?_, ?_, ?_, ?_, ?_, ?_, ?_, ?_⟩
      · exact Blk.later hb fb0
      · exact Blk.later hb fb1
      · exact Blk.later hb fb2
      · exact Blk.later hb fb3
      · exact Blk.later hb fb4
      · exact belowThru fB hb
      · have := hb.size; omega
      · intro h; obtain ⟨p, q⟩ := f23 h; exact ⟨Blk.later hb p, q⟩
      · intro h; obtain ⟨p, q⟩ := f24 h; exact ⟨Blk.later hb p, q⟩
      · exact d23_24
      · exact s23
      · exact s24
    · have ge8 : gg8 = false := hi2
      have ge3 : gg3 = true := inv_dep ho hall 3 (by kernel_rfl)
      have ge7 : gg7 = true := inv_dep ho hall 7 (by kernel_rfl)
      clear hall hi1 hi2
      subst ge8 ge3 ge7
      have ho2 := ho
      simp only [List.getElem?_toArray, List.getElem?_cons_zero, List.getElem?_cons_succ] at ho2
      have ho3 := Option.some.inj ho2; clear ho2; subst ho3
      obtain ⟨ba0, bb0⟩ := fb0.read; have bl0 := fb0.lt
      obtain ⟨ba1, bb1⟩ := fb1.read; have bl1 := fb1.lt
      obtain ⟨ba2, bb2⟩ := fb2.read; have bl2 := fb2.lt
      obtain ⟨ba3, bb3⟩ := fb3.read; have bl3 := fb3.lt
      obtain ⟨ba4, bb4⟩ := fb4.read; have bl4 := fb4.lt
      simp only [Act.put, List.setIfInBounds_toArray, List.set_cons_zero, List.set_cons_succ]
      simp only [cond_true, cond_false]
      refine inv_op ho (by kernel_rfl) (fun K hK => ?_)
      clear ho
      go_simp
      refine hK.out _ _ ?_
      unfold MeeI4
      refine ⟨gg0, gg1, gg2, true, gg4, gg5, gg6, true, true, gg9, gg10, gg11, gg12, gg13, gg14, gg15, gg16, gg17, gg18, gg19, gg20, gg21, gg22, gg23, gg24, gg25, gg26, gg27, x23, x24, rfl, by simp only [Act.put, List.setIfInBounds_toArray, List.set_cons_zero, List.set_cons_succ, cond_true, cond_false, Bool.cond_self], ?_, ?_, ?_, ?_, ?_, ?_, ?_, ?_, ?_, ?_, ?_, ?_⟩
      · exact fb0
      · exact fb1
      · exact fb2
      · exact fb3
      · exact fb4
      · exact fB
      · exact fL
      · exact f23
      · exact f24
      · exact d23_24
      · exact s23
      · exact s24
    · have ge9 : gg9 = false := hi2
      clear hall hi1 hi2
      subst ge9
      have ho2 := ho
      simp only [List.getElem?_toArray, List.getElem?_cons_zero, List.getElem?_cons_succ] at ho2
      have ho3 := Option.some.inj ho2; clear ho2; subst ho3
      obtain ⟨ba0, bb0⟩ := fb0.read; have bl0 := fb0.lt
      obtain ⟨ba1, bb1⟩ := fb1.read; have bl1 := fb1.lt
      obtain ⟨ba2, bb2⟩ := fb2.read; have bl2 := fb2.lt
      obtain ⟨ba3, bb3⟩ := fb3.read; have bl3 := fb3.lt
      obtain ⟨ba4, bb4⟩ := fb4.read; have bl4 := fb4.lt
      simp only [Act.put, List.setIfInBounds_toArray, List.set_cons_zero, List.set_cons_succ]
      simp only [cond_true, cond_false]
      refine inv_op ho (by kernel_rfl) (fun K hK => ?_)
      clear ho
      go_simp
      refine hK.out _ _ ?_
      unfold MeeI4
      refine ⟨gg0, gg1, gg2, gg3, gg4, gg5, gg6, gg7, gg8, true, gg10, gg11, gg12, gg13, gg14, gg15, gg16, gg17, gg18, gg19, gg20, gg21, gg22, gg23, gg24, gg25, gg26, gg27, x23, x24, rfl, by simp only [Act.put, List.setIfInBounds_toArray, List.set_cons_zero, List.set_cons_succ, cond_true, cond_false, Bool.cond_self], ?_, ?_, ?_, ?_, ?_, ?_, ?_, ?_, ?_, ?_, ?_, ?_⟩
      · exact fb0
      · exact fb1
      · exact fb2
      · exact fb3
      · exact fb4
      · exact fB
      · exact fL
      · exact f23
      · exact f24
      · exact d23_24
      · exact s23
      · exact s24
    · have ge10 : gg10 = false := hi2
      clear hall hi1 hi2
      subst ge10
      have ho2 := ho
      simp only [List.getElem?_toArray, List.getElem?_cons_zero, List.getElem?_cons_succ] at ho2
      have ho3 := Option.some.inj ho2; clear ho2; subst ho3
      obtain ⟨ba0, bb0⟩ := fb0.read; have bl0 := fb0.lt
      obtain ⟨ba1, bb1⟩ := fb1.read; have bl1 := fb1.lt
      obtain ⟨ba2, bb2⟩ := fb2.read; have bl2 := fb2.lt
      obtain ⟨ba3, bb3⟩ := fb3.read; have bl3 := fb3.lt
      obtain ⟨ba4, bb4⟩ := fb4.read; have bl4 := fb4.lt
      simp only [Act.put, List.setIfInBounds_toArray, List.set_cons_zero, List.set_cons_succ]
      simp only [cond_true, cond_false]
      refine inv_op ho (by kernel_rfl) (fun K hK => ?_)
      clear ho
      go_simp
      refine hK.out _ _ ?_
      unfold MeeI4
      refine ⟨gg0, gg1, gg2, gg3, gg4, gg5, gg6, gg7, gg8, gg9, true, gg11, gg12, gg13, gg14, gg15, gg16, gg17, gg18, gg19, gg20, gg21, gg22, gg23, gg24, gg25, gg26, gg27, x23, x24, rfl, by simp only [Act.put, List.setIfInBounds_toArray, List.set_cons_zero, List.set_cons_succ, cond_true, cond_false, Bool.cond_self], ?_, ?_, ?_, ?_, ?_, ?_, ?_, ?_, ?_, ?_, ?_, ?_⟩
      · exact fb0
      · exact fb1
      · exact fb2
      · exact fb3
      · exact fb4
      · exact fB
      · exact fL
      · exact f23
      · exact f24
      · exact d23_24
      · exact s23
      · exact s24
    · have ge11 : gg11 = false := hi2
      have ge10 : gg10 = true := inv_dep ho hall 10 (by kernel_rfl)
      clear hall hi1 hi2
      subst ge11 ge10
      have ho2 := ho
      simp only [List.getElem?_toArray, List.getElem?_cons_zero, List.getElem?_cons_succ] at ho2
      have ho3 := Option.some.inj ho2; clear ho2; subst ho3
      obtain ⟨ba0, bb0⟩ := fb0.read; have bl0 := fb0.lt
      obtain ⟨ba1, bb1⟩ := fb1.read; have bl1 := fb1.lt
      obtain ⟨ba2, bb2⟩ := fb2.read; have bl2 := fb2.lt
      obtain ⟨ba3, bb3⟩ := fb3.read; have bl3 := fb3.lt
      obtain ⟨ba4, bb4⟩ := fb4.read; have bl4 := fb4.lt
      simp only [Act.put, List.setIfInBounds_toArray, List.set_cons_zero, List.set_cons_succ]
      simp only [cond_true, cond_false]
      refine inv_op ho (by kernel_rfl) (fun K hK => ?_)
      clear ho
      go_simp
      refine hK.out _ _ ?_
      unfold MeeI4
      refine ⟨gg0, gg1, gg2, gg3, gg4, gg5, gg6, gg7, gg8, gg9, true, true, gg12, gg13, gg14, gg15, gg16, gg17, gg18, gg19, gg20, gg21, gg22, gg23, gg24, gg25, gg26, gg27, x23, x24, rfl, by simp only [Act.put, List.setIfInBounds_toArray, List.set_cons_zero, List.set_cons_succ, cond_true, cond_false, Bool.cond_self], ?_, ?_, ?_, ?_, ?_, ?_, ?_, ?_, ?_, ?_, ?_, ?_⟩
      · exact fb0
      · exact fb1
      · exact fb2
      · exact fb3
      · exact fb4
      · exact fB
      · exact fL
      · exact f23
      · exact f24
      · exact d23_24
      · exact s23
      · exact s24
    · have ge12 : gg12 = false := hi2
      have ge9 : gg9 = true := inv_dep ho hall 9 (by kernel_rfl)
      have ge11 : gg11 = true := inv_dep ho hall 11 (by kernel_rfl)
      clear hall hi1 hi2
      subst ge12 ge9 ge11
      have ho2 := ho
      simp only [List.getElem?_toArray, List.getElem?_cons_zero, List.getElem?_cons_succ] at ho2
      have ho3 := Option.some.inj ho2; clear ho2; subst ho3
      obtain ⟨ba0, bb0⟩ := fb0.read; have bl0 := fb0.lt
      obtain ⟨ba1, bb1⟩ := fb1.read; have bl1 := fb1.lt
      obtain ⟨ba2, bb2⟩ := fb2.read; have bl2 := fb2.lt
      obtain ⟨ba3, bb3⟩ := fb3.read; have bl3 := fb3.lt
      obtain ⟨ba4, bb4⟩ := fb4.read; have bl4 := fb4.lt
      simp only [Act.put, List.setIfInBounds_toArray, List.set_cons_zero, List.set_cons_succ]
      simp only [cond_true, cond_false]
      refine inv_op ho (by kernel_rfl) (fun K hK => ?_)
      clear ho
      go_simp
      go_at_call 39; (with_reducible refine (HO2.out _ _ (by rw [ba2]; simp)).mono ?_); rintro e w8 ⟨rfl, hb⟩
      refine hK.out _ _ ?_
      unfold MeeI4
      refine ⟨gg0, gg1, gg2, gg3, gg4, gg5, gg6, gg7, gg8, true, gg10, true, true, gg13, gg14, gg15, gg16, gg17, gg18, gg19, gg20, gg21, gg22, gg23, gg24, gg25, gg26, gg27, x23, x24, rfl, by simp only [Act.put, List.setIfInBounds_toArray, List.set_cons_zero, List.set_cons_succ, cond_true, cond_false, Bool.cond_self], ?_, ?_, ?_, ?_, ?_, ?_, ?_, ?_, ?_, ?_, ?_, ?_⟩
      · exact Blk.later hb fb0
      · exact Blk.later hb fb1
      · exact Blk.later hb fb2
      · exact Blk.later hb fb3
      · exact Blk.later hb fb4
      · exact belowThru fB hb
      · have := hb.size; omega
      · intro h; obtain ⟨p, q⟩ := f23 h; exact ⟨Blk.later hb p, q⟩
      · intro h; obtain ⟨p, q⟩ := f24 h; exact ⟨Blk.later hb p, q⟩
      · exact d23_24
      · exact s23
      · exact s24
    · have ge13 : gg13 = false := hi2
      clear hall hi1 hi2
      subst ge13
      have ho2 := ho
      simp only [List.getElem?_toArray, List.getElem?_cons_zero, List.getElem?_cons_succ] at ho2
      have ho3 := Option.some.inj ho2; clear ho2; subst ho3
      obtain ⟨ba0, bb0⟩ := fb0.read; have bl0 := fb0.lt
      obtain ⟨ba1, bb1⟩ := fb1.read; have bl1 := fb1.lt
      obtain ⟨ba2, bb2⟩ := fb2.read; have bl2 := fb2.lt
      obtain ⟨ba3, bb3⟩ := fb3.read; have bl3 := fb3.lt
      obtain ⟨ba4, bb4⟩ := fb4.read; have bl4 := fb4.lt
      simp only [Act.put, List.setIfInBounds_toArray, List.set_cons_zero, List.set_cons_succ]
      simp only [cond_true, cond_false]
      refine inv_op ho (by kernel_rfl) (fun K hK => ?_)
      clear ho
      go_simp
      refine hK.out _ _ ?_
      unfold MeeI4
      refine ⟨gg0, gg1, gg2, gg3, gg4, gg5, gg6, gg7, gg8, gg9, gg10, gg11, gg12, true, gg14, gg15, gg16, gg17, gg18, gg19, gg20, gg21, gg22, gg23, gg24, gg25, gg26, gg27, x23, x24, rfl, by simp only [Act.put, List.setIfInBounds_toArray, List.set_cons_zero, List.set_cons_succ, cond_true, cond_false, Bool.cond_self], ?_, ?_, ?_, ?_, ?_, ?_, ?_, ?_, ?_, ?_, ?_, ?_⟩
      · exact fb0
      · exact fb1
      · exact fb2
      · exact fb3
      · exact fb4
      · exact fB
      · exact fL
      · exact f23
      · exact f24
      · exact d23_24
      · exact s23
      · exact s24
    · have ge14 : gg14 = false := hi2
      clear hall hi1 hi2
      subst ge14
      have ho2 := ho
      simp only [List.getElem?_toArray, List.getElem?_cons_zero, List.getElem?_cons_succ] at ho2
      have ho3 := Option.some.inj ho2; clear ho2; subst ho3
      obtain ⟨ba0, bb0⟩ := fb0.read; have bl0 := fb0.lt
      obtain ⟨ba1, bb1⟩ := fb1.read; have bl1 := fb1.lt
      obtain ⟨ba2, bb2⟩ := fb2.read; have bl2 := fb2.lt
      obtain ⟨ba3, bb3⟩ := fb3.read; have bl3 := fb3.lt
      obtain ⟨ba4, bb4⟩ := fb4.read; have bl4 := fb4.lt
      simp only [Act.put, List.setIfInBounds_toArray, List.set_cons_zero, List.set_cons_succ]
      simp only [cond_true, cond_false]
      refine inv_op ho (by kernel_rfl) (fun K hK => ?_)
      clear ho
      go_simp
      refine hK.out _ _ ?_
      unfold MeeI4
      refine ⟨gg0, gg1, gg2, gg3, gg4, gg5, gg6, gg7, gg8, gg9, gg10, gg11, gg12, gg13, true, gg15, gg16, gg17, gg18, gg19, gg20, gg21, gg22, gg23, gg24, gg25, gg26, gg27, x23, x24, rfl, by simp only [Act.put, List.setIfInBounds_toArray, List.set_cons_zero, List.set_cons_succ, cond_true, cond_false, Bool.cond_self], ?_, ?_, ?_, ?_, ?_, ?_, ?_, ?_, ?_, ?_, ?_, ?_⟩
      · exact fb0
      · exact fb1
      · exact fb2
      · exact fb3
      · exact fb4
      · exact fB
      · exact fL
      · exact f23
      · exact f24
      · exact d23_24
      · exact s23
      · exact s24
    · have ge15 : gg15 = false := hi2
      have ge14 : gg14 = true := inv_dep ho hall 14 (by kernel_rfl)
      clear hall hi1 hi2
      subst ge15 ge14
      have ho2 := ho
      simp only [List.getElem?_toArray, List.getElem?_cons_zero, List.getElem?_cons_succ] at ho2
      have ho3 := Option.some.inj ho2; clear ho2; subst ho3
      obtain ⟨ba0, bb0⟩ := fb0.read; have bl0 := fb0.lt
      obtain ⟨ba1, bb1⟩ := fb1.read; have bl1 := fb1.lt
      obtain ⟨ba2, bb2⟩ := fb2.read; have bl2 := fb2.lt
      obtain ⟨ba3, bb3⟩ := fb3.read; have bl3 := fb3.lt
      obtain ⟨ba4, bb4⟩ := fb4.read; have bl4 := fb4.lt
      simp only [Act.put, List.setIfInBounds_toArray, List.set_cons_zero, List.set_cons_succ]
      simp only [cond_true, cond_false]
      refine inv_op ho (by kernel_rfl) (fun K hK => ?_)
      clear ho
      go_simp
      refine hK.out _ _ ?_
      unfold MeeI4
      refine ⟨gg0, gg1, gg2, gg3, gg4, gg5, gg6, gg7, gg8, gg9, gg10, gg11, gg12, gg13, true, true, gg16, gg17, gg18, gg19, gg20, gg21, gg22, gg23, gg24, gg25, gg26, gg27, x23, x24, rfl, by simp only [Act.put, List.setIfInBounds_toArray, List.set_cons_zero, List.set_cons_succ, cond_true, cond_false, Bool.cond_self], ?_, ?_, ?_, ?_, ?_, ?_, ?_, ?_, ?_, ?_, ?_, ?_⟩
      · exact fb0
      · exact fb1
      · exact fb2
      · exact fb3
      · exact fb4
      · exact fB
      · exact fL
      · exact f23
      · exact f24
      · exact d23_24
      · exact s23
      · exact s24
    · have ge16 : gg16 = false := hi2
      have ge13 : gg13 = true := inv_dep ho hall 13 (by kernel_rfl)
      have ge15 : gg15 = true := inv_dep ho hall 15 (by kernel_rfl)
      clear hall hi1 hi2
      subst ge16 ge13 ge15
      have ho2 := ho
      simp only [List.getElem?_toArray, List.getElem?_cons_zero, List.getElem?_cons_succ] at ho2
      have ho3 := Option.some.inj ho2; clear ho2; subst ho3
      obtain ⟨ba0, bb0⟩ := fb0.read; have bl0 := fb0.lt
      obtain ⟨ba1, bb1⟩ := fb1.read; have bl1 := fb1.lt
      obtain ⟨ba2, bb2⟩ := fb2.read; have bl2 := fb2.lt
      obtain ⟨ba3, bb3⟩ := fb3.read; have bl3 := fb3.lt
      obtain ⟨ba4, bb4⟩ := fb4.read; have bl4 := fb4.lt
      simp only [Act.put, List.setIfInBounds_toArray, List.set_cons_zero, List.set_cons_succ]
      simp only [cond_true, cond_false]
      refine inv_op ho (by kernel_rfl) (fun K hK => ?_)
      clear ho
      go_simp
      go_at_call 39; (with_reducible refine (HO3.out _ _ (by rw [ba2]; simp)).mono ?_); rintro e w8 ⟨rfl, hb⟩
      refine hK.out _ _ ?_
      unfold MeeI4
      refine ⟨gg0, gg1, gg2, gg3, gg4, gg5, gg6, gg7, gg8, gg9, gg10, gg11, gg12, true, gg14, true, true, gg17, gg18, gg19, gg20, gg21, gg22, gg23, gg24, gg25, gg26, gg27, x23, x24, rfl, by simp only [Act.put, List.setIfInBounds_toArray, List.set_cons_zero, List.set_cons_succ, cond_true, cond_false, Bool.cond_self], ?_, ?_, ?_, ?_, ?_, ?_, ?_, ?_, ?_, ?_, ?_, ?_⟩
      · exact Blk.later hb fb0
      · exact Blk.later hb fb1
      · exact Blk.later hb fb2
      · exact Blk.later hb fb3
      · exact Blk.later hb fb4
      · exact belowThru fB hb
      · have := hb.size; omega
      · intro h; obtain ⟨p, q⟩ := f23 h; exact ⟨Blk.later hb p, q⟩
      · intro h; obtain ⟨p, q⟩ := f24 h; exact ⟨Blk.later hb p, q⟩
      · exact d23_24
      · exact s23
      · exact s24
    · have ge17 : gg17 = false := hi2
      have ge12 : gg12 = true := inv_dep ho hall 12 (by kernel_rfl)
      have ge16 : gg16 = true := inv_dep ho hall 16 (by kernel_rfl)
      clear hall hi1 hi2
      subst ge17 ge12 ge16
      have ho2 := ho
      simp only [List.getElem?_toArray, List.getElem?_cons_zero, List.getElem?_cons_succ] at ho2
      have ho3 := Option.some.inj ho2; clear ho2; subst ho3
      obtain ⟨ba0, bb0⟩ := fb0.read; have bl0 := fb0.lt
      obtain ⟨ba1, bb1⟩ := fb1.read; have bl1 := fb1.lt
      obtain ⟨ba2, bb2⟩ := fb2.read; have bl2 := fb2.lt
      obtain ⟨ba3, bb3⟩ := fb3.read; have bl3 := fb3.lt
      obtain ⟨ba4, bb4⟩ := fb4.read; have bl4 := fb4.lt
      simp only [Act.put, List.setIfInBounds_toArray, List.set_cons_zero, List.set_cons_succ]
      simp only [cond_true, cond_false]
      refine inv_op ho (by kernel_rfl) (fun K hK => ?_)
      clear ho
      go_simp
      refine hK.out _ _ ?_
      unfold MeeI4
      refine ⟨gg0, gg1, gg2, gg3, gg4, gg5, gg6, gg7, gg8, gg9, gg10, gg11, true, gg13, gg14, gg15, true, true, gg18, gg19, gg20, gg21, gg22, gg23, gg24, gg25, gg26, gg27, x23, x24, rfl, by simp only [Act.put, List.setIfInBounds_toArray, List.set_cons_zero, List.set_cons_succ, cond_true, cond_false, Bool.cond_self], ?_, ?_, ?_, ?_, ?_, ?_, ?_, ?_, ?_, ?_, ?_, ?_⟩
      · exact fb0
      · exact fb1
      · exact fb2
      · exact fb3
      · exact fb4
      · exact fB
      · exact fL
      · exact f23
      · exact f24
      · exact d23_24
      · exact s23
      · exact s24
    · have ge18 : gg18 = false := hi2
      have ge8 : gg8 = true := inv_dep ho hall 8 (by kernel_rfl)
      have ge17 : gg17 = true := inv_dep ho hall 17 (by kernel_rfl)
      clear hall hi1 hi2
      subst ge18 ge8 ge17
      have ho2 := ho
      simp only [List.getElem?_toArray, List.getElem?_cons_zero, List.getElem?_cons_succ] at ho2
      have ho3 := Option.some.inj ho2; clear ho2; subst ho3
      obtain ⟨ba0, bb0⟩ := fb0.read; have bl0 := fb0.lt
      obtain ⟨ba1, bb1⟩ := fb1.read; have bl1 := fb1.lt
      obtain ⟨ba2, bb2⟩ := fb2.read; have bl2 := fb2.lt
      obtain ⟨ba3, bb3⟩ := fb3.read; have bl3 := fb3.lt
      obtain ⟨ba4, bb4⟩ := fb4.read; have bl4 := fb4.lt
      simp only [Act.put, List.setIfInBounds_toArray, List.set_cons_zero, List.set_cons_succ]
      simp only [cond_true, cond_false]
      refine inv_op ho (by kernel_rfl) (fun K hK => ?_)
      clear ho
      go_simp
      go_at_call 17; (with_reducible refine (HB.out _).mono ?_); rintro e w8 ⟨rfl, hb⟩
      refine hK.out _ _ ?_
      unfold MeeI4
      refine ⟨gg0, gg1, gg2, gg3, gg4, gg5, gg6, gg7, true, gg9, gg10, gg11, gg12, gg13, gg14, gg15, gg16, true, true, gg19, gg20, gg21, gg22, gg23, gg24, gg25, gg26, gg27, x23, x24, rfl, by simp only [Act.put, List.setIfInBounds_toArray, List.set_cons_zero, List.set_cons_succ, cond_true, cond_false, Bool.cond_self], ?_, ?_, ?_, ?_, ?_, ?_, ?_, ?_, ?_, ?_, ?_, ?_⟩
      · exact Blk.later hb fb0
      · exact Blk.later hb fb1
      · exact Blk.later hb fb2
      · exact Blk.later hb fb3
      · exact Blk.later hb fb4
      · exact belowThru fB hb
      · have := hb.size; omega
      · intro h; obtain ⟨p, q⟩ := f23 h; exact ⟨Blk.later hb p, q⟩
      · intro h; obtain ⟨p, q⟩ := f24 h; exact ⟨Blk.later hb p, q⟩
      · exact d23_24
      · exact s23
      · exact s24
    · have ge19 : gg19 = false := hi2
      have ge18 : gg18 = true := inv_dep ho hall 18 (by kernel_rfl)
      clear hall hi1 hi2
      subst ge19 ge18
      have ho2 := ho
      simp only [List.getElem?_toArray, List.getElem?_cons_zero, List.getElem?_cons_succ] at ho2
      have ho3 := Option.some.inj ho2; clear ho2; subst ho3
      obtain ⟨ba0, bb0⟩ := fb0.read; have bl0 := fb0.lt
      obtain ⟨ba1, bb1⟩ := fb1.read; have bl1 := fb1.lt
      obtain ⟨ba2, bb2⟩ := fb2.read; have bl2 := fb2.lt
      obtain ⟨ba3, bb3⟩ := fb3.read; have bl3 := fb3.lt
      obtain ⟨ba4, bb4⟩ := fb4.read; have bl4 := fb4.lt
      simp only [Act.put, List.setIfInBounds_toArray, List.set_cons_zero, List.set_cons_succ]
      simp only [cond_true, cond_false]
      refine inv_op ho (by kernel_rfl) (fun K hK => ?_)
      clear ho
      go_simp
      refine hK.out _ _ ?_
      unfold MeeI4
      refine ⟨gg0, gg1, gg2, gg3, gg4, gg5, gg6, gg7, gg8, gg9, gg10, gg11, gg12, gg13, gg14, gg15, gg16, gg17, true, true, gg20, gg21, gg22, gg23, gg24, gg25, gg26, gg27, x23, x24, rfl, by simp only [Act.put, List.setIfInBounds_toArray, List.set_cons_zero, List.set_cons_succ, cond_true, cond_false, Bool.cond_self], ?_, ?_, ?_, ?_, ?_, ?_, ?_, ?_, ?_, ?_, ?_, ?_⟩
      · exact fb0
      · exact fb1
      · exact fb2
      · exact fb3
      · exact fb4
      · exact fB
      · exact fL
      · exact f23
      · exact f24
      · exact d23_24
      · exact s23
      · exact s24
    · have ge20 : gg20 = false := hi2
      have ge19 : gg19 = true := inv_dep ho hall 19 (by kernel_rfl)
      clear hall hi1 hi2
      subst ge20 ge19
      have ho2 := ho
      simp only [List.getElem?_toArray, List.getElem?_cons_zero, List.getElem?_cons_succ] at ho2
      have ho3 := Option.some.inj ho2; clear ho2; subst ho3
      obtain ⟨ba0, bb0⟩ := fb0.read; have bl0 := fb0.lt
      obtain ⟨ba1, bb1⟩ := fb1.read; have bl1 := fb1.lt
      obtain ⟨ba2, bb2⟩ := fb2.read; have bl2 := fb2.lt
      obtain ⟨ba3, bb3⟩ := fb3.read; have bl3 := fb3.lt
      obtain ⟨ba4, bb4⟩ := fb4.read; have bl4 := fb4.lt
      simp only [Act.put, List.setIfInBounds_toArray, List.set_cons_zero, List.set_cons_succ]
      simp only [cond_true, cond_false]
      refine inv_op ho (by kernel_rfl) (fun K hK => ?_)
      clear ho
      go_simp
      refine hK.out _ _ ?_
      unfold MeeI4
      refine ⟨gg0, gg1, gg2, gg3, gg4, gg5, gg6, gg7, gg8, gg9, gg10, gg11, gg12, gg13, gg14, gg15, gg16, gg17, gg18, true, true, gg21, gg22, gg23, gg24, gg25, gg26, gg27, x23, x24, rfl, by simp only [Act.put, List.setIfInBounds_toArray, List.set_cons_zero, List.set_cons_succ, cond_true, cond_false, Bool.cond_self], ?_, ?_, ?_, ?_, ?_, ?_, ?_, ?_, ?_, ?_, ?_, ?_⟩
      · exact fb0
      · exact fb1
      · exact fb2
      · exact fb3
      · exact fb4
      · exact fB
      · exact fL
      · exact f23
      · exact f24
      · exact d23_24
      · exact s23
      · exact s24
    · have ge21 : gg21 = false := hi2
      have ge19 : gg19 = true := inv_dep ho hall 19 (by kernel_rfl)
      clear hall hi1 hi2
      subst ge21 ge19
      have ho2 := ho
      simp only [List.getElem?_toArray, List.getElem?_cons_zero, List.getElem?_cons_succ] at ho2
      have ho3 := Option.some.inj ho2; clear ho2; subst ho3
      obtain ⟨ba0, bb0⟩ := fb0.read; have bl0 := fb0.lt
      obtain ⟨ba1, bb1⟩ := fb1.read; have bl1 := fb1.lt
      obtain ⟨ba2, bb2⟩ := fb2.read; have bl2 := fb2.lt
      obtain ⟨ba3, bb3⟩ := fb3.read; have bl3 := fb3.lt
      obtain ⟨ba4, bb4⟩ := fb4.read; have bl4 := fb4.lt
      simp only [Act.put, List.setIfInBounds_toArray, List.set_cons_zero, List.set_cons_succ]
      simp only [cond_true, cond_false]
      refine inv_op ho (by kernel_rfl) (fun K hK => ?_)
      clear ho
      go_simp
      refine hK.out _ _ ?_
      unfold MeeI4
      refine ⟨gg0, gg1, gg2, gg3, gg4, gg5, gg6, gg7, gg8, gg9, gg10, gg11, gg12, gg13, gg14, gg15, gg16, gg17, gg18, true, gg20, true, gg22, gg23, gg24, gg25, gg26, gg27, x23, x24, rfl, by simp only [Act.put, List.setIfInBounds_toArray, List.set_cons_zero, List.set_cons_succ, cond_true, cond_false, Bool.cond_self], ?_, ?_, ?_, ?_, ?_, ?_, ?_, ?_, ?_, ?_, ?_, ?_⟩
      · exact fb0
      · exact fb1
      · exact fb2
      · exact fb3
      · exact fb4
      · exact fB
      · exact fL
      · exact f23
      · exact f24
      · exact d23_24
      · exact s23
      · exact s24
    · have ge22 : gg22 = false := hi2
      have ge19 : gg19 = true := inv_dep ho hall 19 (by kernel_rfl)
      clear hall hi1 hi2
      subst ge22 ge19
      have ho2 := ho
      simp only [List.getElem?_toArray, List.getElem?_cons_zero, List.getElem?_cons_succ] at ho2
      have ho3 := Option.some.inj ho2; clear ho2; subst ho3
      obtain ⟨ba0, bb0⟩ := fb0.read; have bl0 := fb0.lt
      obtain ⟨ba1, bb1⟩ := fb1.read; have bl1 := fb1.lt
      obtain ⟨ba2, bb2⟩ := fb2.read; have bl2 := fb2.lt
      obtain ⟨ba3, bb3⟩ := fb3.read; have bl3 := fb3.lt
      obtain ⟨ba4, bb4⟩ := fb4.read; have bl4 := fb4.lt
      simp only [Act.put, List.setIfInBounds_toArray, List.set_cons_zero, List.set_cons_succ]
      simp only [cond_true, cond_false]
      refine inv_op ho (by kernel_rfl) (fun K hK => ?_)
      clear ho
      go_simp
      refine hK.out _ _ ?_
      unfold MeeI4
      refine ⟨gg0, gg1, gg2, gg3, gg4, gg5, gg6, gg7, gg8, gg9, gg10, gg11, gg12, gg13, gg14, gg15, gg16, gg17, gg18, true, gg20, gg21, true, gg23, gg24, gg25, gg26, gg27, x23, x24, rfl, by simp only [Act.put, List.setIfInBounds_toArray, List.set_cons_zero, List.set_cons_succ, cond_true, cond_false, Bool.cond_self], ?_, ?_, ?_, ?_, ?_, ?_, ?_, ?_, ?_, ?_, ?_, ?_⟩
      · exact fb0
      · exact fb1
      · exact fb2
      · exact fb3
      · exact fb4
      · exact fB
      · exact fL
      · exact f23
      · exact f24
      · exact d23_24
      · exact s23
      · exact s24
    · have ge23 : gg23 = false := hi2
      clear hall hi1 hi2
      subst ge23
      have ho2 := ho
      simp only [List.getElem?_toArray, List.getElem?_cons_zero, List.getElem?_cons_succ] at ho2
      have ho3 := Option.some.inj ho2; clear ho2; subst ho3
      obtain ⟨ba0, bb0⟩ := fb0.read; have bl0 := fb0.lt
      obtain ⟨ba1, bb1⟩ := fb1.read; have bl1 := fb1.lt
      obtain ⟨ba2, bb2⟩ := fb2.read; have bl2 := fb2.lt
      obtain ⟨ba3, bb3⟩ := fb3.read; have bl3 := fb3.lt
      obtain ⟨ba4, bb4⟩ := fb4.read; have bl4 := fb4.lt
      obtain rfl : gg25 = false := by cases gg25; rfl; exact Bool.noConfusion (s23 rfl)
      simp only [Act.put, List.setIfInBounds_toArray, List.set_cons_zero, List.set_cons_succ]
      simp only [cond_true, cond_false]
      refine inv_op ho (by kernel_rfl) (fun K hK => ?_)
      clear ho
      go_simp
      refine hK.out _ _ ?_
      unfold MeeI4
      refine ⟨gg0, gg1, gg2, gg3, gg4, gg5, gg6, gg7, gg8, gg9, gg10, gg11, gg12, gg13, gg14, gg15, gg16, gg17, gg18, gg19, gg20, gg21, gg22, true, gg24, false, gg26, gg27, w9.heap.size, x24, rfl, by simp only [Act.put, List.setIfInBounds_toArray, List.set_cons_zero, List.set_cons_succ, cond_true, cond_false, Bool.cond_self], ?_, ?_, ?_, ?_, ?_, ?_, ?_, ?_, ?_, ?_, ?_, ?_⟩
      · exact fb0.alloc
      · exact fb1.alloc
      · exact fb2.alloc
      · exact fb3.alloc
      · exact fb4.alloc
      · exact belowAlloc fB
      · simp only [World.size_alloc]; omega
      · intro _; exact ⟨Blk.new rfl, fL⟩
      · intro h; obtain ⟨p, q⟩ := f24 h; exact ⟨p.alloc, q⟩
      · intro _ h; have := (f24 h).1.lt; omega
      · intro _; rfl
      · exact s24
    · have ge24 : gg24 = false := hi2
      clear hall hi1 hi2
      subst ge24
      have ho2 := ho
      simp only [List.getElem?_toArray, List.getElem?_cons_zero, List.getElem?_cons_succ] at ho2
      have ho3 := Option.some.inj ho2; clear ho2; subst ho3
      obtain ⟨ba0, bb0⟩ := fb0.read; have bl0 := fb0.lt
      obtain ⟨ba1, bb1⟩ := fb1.read; have bl1 := fb1.lt
      obtain ⟨ba2, bb2⟩ := fb2.read; have bl2 := fb2.lt
      obtain ⟨ba3, bb3⟩ := fb3.read; have bl3 := fb3.lt
      obtain ⟨ba4, bb4⟩ := fb4.read; have bl4 := fb4.lt
      obtain rfl : gg26 = false := by cases gg26; rfl; exact Bool.noConfusion (s24 rfl)
      simp only [Act.put, List.setIfInBounds_toArray, List.set_cons_zero, List.set_cons_succ]
      simp only [cond_true, cond_false]
      refine inv_op ho (by kernel_rfl) (fun K hK => ?_)
      clear ho
      go_simp
      refine hK.out _ _ ?_
      unfold MeeI4
      refine ⟨gg0, gg1, gg2, gg3, gg4, gg5, gg6, gg7, gg8, gg9, gg10, gg11, gg12, gg13, gg14, gg15, gg16, gg17, gg18, gg19, gg20, gg21, gg22, gg23, true, gg25, false, gg27, x23, w9.heap.size, rfl, by simp only [Act.put, List.setIfInBounds_toArray, List.set_cons_zero, List.set_cons_succ, cond_true, cond_false, Bool.cond_self], ?_, ?_, ?_, ?_, ?_, ?_, ?_, ?_, ?_, ?_, ?_, ?_⟩
      · exact fb0.alloc
      · exact fb1.alloc
      · exact fb2.alloc
      · exact fb3.alloc
      · exact fb4.alloc
      · exact belowAlloc fB
      · simp only [World.size_alloc]; omega
      · intro h; obtain ⟨p, q⟩ := f23 h; exact ⟨p.alloc, q⟩
      · intro _; exact ⟨Blk.new rfl, fL⟩
      · intro h _; have := (f23 h).1.lt; omega
      · exact s23
      · intro _; rfl
    · have ge25 : gg25 = false := hi2
      have ge20 : gg20 = true := inv_dep ho hall 20 (by kernel_rfl)
      have ge23 : gg23 = true := inv_dep ho hall 23 (by kernel_rfl)
      clear hall hi1 hi2
      subst ge25 ge20 ge23
      have ho2 := ho
      simp only [List.getElem?_toArray, List.getElem?_cons_zero, List.getElem?_cons_succ] at ho2
      have ho3 := Option.some.inj ho2; clear ho2; subst ho3
      obtain ⟨p23, q23⟩ := f23 rfl
      obtain ⟨ra23, rb23⟩ := p23.read
      have rl23 := p23.lt
      obtain ⟨ba0, bb0⟩ := fb0.read; have bl0 := fb0.lt
      obtain ⟨ba1, bb1⟩ := fb1.read; have bl1 := fb1.lt
      obtain ⟨ba2, bb2⟩ := fb2.read; have bl2 := fb2.lt
      obtain ⟨ba3, bb3⟩ := fb3.read; have bl3 := fb3.lt
      obtain ⟨ba4, bb4⟩ := fb4.read; have bl4 := fb4.lt
      have rl23 := p23.lt
      skip
      simp only [Act.put, List.setIfInBounds_toArray, List.set_cons_zero, List.set_cons_succ]
      simp only [cond_true, cond_false]
      refine inv_op ho (by kernel_rfl) (fun K hK => ?_)
      clear ho
      go_simp
      refine hK.out _ _ ?_
      unfold MeeI4
      refine ⟨gg0, gg1, gg2, gg3, gg4, gg5, gg6, gg7, gg8, gg9, gg10, gg11, gg12, gg13, gg14, gg15, gg16, gg17, gg18, gg19, true, gg21, gg22, true, gg24, true, gg26, gg27, x23, x24, rfl, by simp only [Act.put, List.setIfInBounds_toArray, List.set_cons_zero, List.set_cons_succ, cond_true, cond_false, Bool.cond_self], ?_, ?_, ?_, ?_, ?_, ?_, ?_, ?_, ?_, ?_, ?_, ?_⟩
      · (repeat' (first | (with_reducible assumption) | ((with_reducible refine Blk.new ?_); first | rfl | (simp; done)) | (with_reducible refine Blk.later (by assumption) ?_) | (with_reducible refine Blk.alloc ?_) | (with_reducible refine Blk.drewN ?_) | (with_reducible refine Blk.drew ?_) | (with_reducible refine Blk.other ?_ (by first | omega | (simp; done) | (simp; omega)))))
      · (repeat' (first | (with_reducible assumption) | ((with_reducible refine Blk.new ?_); first | rfl | (simp; done)) | (with_reducible refine Blk.later (by assumption) ?_) | (with_reducible refine Blk.alloc ?_) | (with_reducible refine Blk.drewN ?_) | (with_reducible refine Blk.drew ?_) | (with_reducible refine Blk.other ?_ (by first | omega | (simp; done) | (simp; omega)))))
      · (repeat' (first | (with_reducible assumption) | ((with_reducible refine Blk.new ?_); first | rfl | (simp; done)) | (with_reducible refine Blk.later (by assumption) ?_) | (with_reducible refine Blk.alloc ?_) | (with_reducible refine Blk.drewN ?_) | (with_reducible refine Blk.drew ?_) | (with_reducible refine Blk.other ?_ (by first | omega | (simp; done) | (simp; omega)))))
      · (repeat' (first | (with_reducible assumption) | ((with_reducible refine Blk.new ?_); first | rfl | (simp; done)) | (with_reducible refine Blk.later (by assumption) ?_) | (with_reducible refine Blk.alloc ?_) | (with_reducible refine Blk.drewN ?_) | (with_reducible refine Blk.drew ?_) | (with_reducible refine Blk.other ?_ (by first | omega | (simp; done) | (simp; omega)))))
      · (repeat' (first | (with_reducible assumption) | ((with_reducible refine Blk.new ?_); first | rfl | (simp; done)) | (with_reducible refine Blk.later (by assumption) ?_) | (with_reducible refine Blk.alloc ?_) | (with_reducible refine Blk.drewN ?_) | (with_reducible refine Blk.drew ?_) | (with_reducible refine Blk.other ?_ (by first | omega | (simp; done) | (simp; omega)))))
      · (repeat' (first | (with_reducible exact Below.refl _ _) | (with_reducible assumption) | (with_reducible refine belowThru ?_ (by assumption)) | (with_reducible refine belowAlloc ?_) | (with_reducible refine Below.setCell ?_ (by first | omega | (simp; done) | (simp; omega)) _) | (with_reducible refine Below.drew ?_) | (with_reducible refine below_drewN ?_ _)))
      · first | exact fL | (simp; omega)
      · intro _; exact ⟨by exact Blk.set (Blk.set (Blk.set (Blk.set (p23)))), q23⟩
      · intro h; obtain ⟨p, q⟩ := f24 h; have hne := d23_24 rfl h; exact ⟨by (repeat' (first | (with_reducible assumption) | ((with_reducible refine Blk.new ?_); first | rfl | (simp; done)) | (with_reducible refine Blk.later (by assumption) ?_) | (with_reducible refine Blk.alloc ?_) | (with_reducible refine Blk.drewN ?_) | (with_reducible refine Blk.drew ?_) | (with_reducible refine Blk.other ?_ (by first | omega | (simp; done) | (simp; omega))))), q⟩
      · exact d23_24
      · intro _; rfl
      · exact s24
    · have ge26 : gg26 = false := hi2
      have ge21 : gg21 = true := inv_dep ho hall 21 (by kernel_rfl)
      have ge24 : gg24 = true := inv_dep ho hall 24 (by kernel_rfl)
      clear hall hi1 hi2
      subst ge26 ge21 ge24
      have ho2 := ho
      simp only [List.getElem?_toArray, List.getElem?_cons_zero, List.getElem?_cons_succ] at ho2
      have ho3 := Option.some.inj ho2; clear ho2; subst ho3
      obtain ⟨p24, q24⟩ := f24 rfl
      obtain ⟨ra24, rb24⟩ := p24.read
      have rl24 := p24.lt
      obtain ⟨ba0, bb0⟩ := fb0.read; have bl0 := fb0.lt
      obtain ⟨ba1, bb1⟩ := fb1.read; have bl1 := fb1.lt
      obtain ⟨ba2, bb2⟩ := fb2.read; have bl2 := fb2.lt
      obtain ⟨ba3, bb3⟩ := fb3.read; have bl3 := fb3.lt
      obtain ⟨ba4, bb4⟩ := fb4.read; have bl4 := fb4.lt
      have rl24 := p24.lt
      skip
      simp only [Act.put, List.setIfInBounds_toArray, List.set_cons_zero, List.set_cons_succ]
      simp only [cond_true, cond_false]
      refine inv_op ho (by kernel_rfl) (fun K hK => ?_)
      clear ho
      go_simp
      refine hK.out _ _ ?_
      unfold MeeI4
      refine ⟨gg0, gg1, gg2, gg3, gg4, gg5, gg6, gg7, gg8, gg9, gg10, gg11, gg12, gg13, gg14, gg15, gg16, gg17, gg18, gg19, gg20, true, gg22, gg23, true, gg25, true, gg27, x23, x24, rfl, by simp only [Act.put, List.setIfInBounds_toArray, List.set_cons_zero, List.set_cons_succ, cond_true, cond_false, Bool.cond_self], ?_, ?_, ?_, ?_, ?_, ?_, ?_, ?_, ?_, ?_, ?_, ?_⟩
      · (repeat' (first | (with_reducible assumption) | ((with_reducible refine Blk.new ?_); first | rfl | (simp; done)) | (with_reducible refine Blk.later (by assumption) ?_) | (with_reducible refine Blk.alloc ?_) | (with_reducible refine Blk.drewN ?_) | (with_reducible refine Blk.drew ?_) | (with_reducible refine Blk.other ?_ (by first | omega | (simp; done) | (simp; omega)))))
      · (repeat' (first | (with_reducible assumption) | ((with_reducible refine Blk.new ?_); first | rfl | (simp; done)) | (with_reducible refine Blk.later (by assumption) ?_) | (with_reducible refine Blk.alloc ?_) | (with_reducible refine Blk.drewN ?_) | (with_reducible refine Blk.drew ?_) | (with_reducible refine Blk.other ?_ (by first | omega | (simp; done) | (simp; omega)))))
      · (repeat' (first | (with_reducible assumption) | ((with_reducible refine Blk.new ?_); first | rfl | (simp; done)) | (with_reducible refine Blk.later (by assumption) ?_) | (with_reducible refine Blk.alloc ?_) | (with_reducible refine Blk.drewN ?_) | (with_reducible refine Blk.drew ?_) | (with_reducible refine Blk.other ?_ (by first | omega | (simp; done) | (simp; omega)))))
      · (repeat' (first | (with_reducible assumption) | ((with_reducible refine Blk.new ?_); first | rfl | (simp; done)) | (with_reducible refine Blk.later (by assumption) ?_) | (with_reducible refine Blk.alloc ?_) | (with_reducible refine Blk.drewN ?_) | (with_reducible refine Blk.drew ?_) | (with_reducible refine Blk.other ?_ (by first | omega | (simp; done) | (simp; omega)))))
      · (repeat' (first | (with_reducible assumption) | ((with_reducible refine Blk.new ?_); first | rfl | (simp; done)) | (with_reducible refine Blk.later (by assumption) ?_) | (with_reducible refine Blk.alloc ?_) | (with_reducible refine Blk.drewN ?_) | (with_reducible refine Blk.drew ?_) | (with_reducible refine Blk.other ?_ (by first | omega | (simp; done) | (simp; omega)))))
      · (repeat' (first | (with_reducible exact Below.refl _ _) | (with_reducible assumption) | (with_reducible refine belowThru ?_ (by assumption)) | (with_reducible refine belowAlloc ?_) | (with_reducible refine Below.setCell ?_ (by first | omega | (simp; done) | (simp; omega)) _) | (with_reducible refine Below.drew ?_) | (with_reducible refine below_drewN ?_ _)))
      · first | exact fL | (simp; omega)
      · intro h; obtain ⟨p, q⟩ := f23 h; have hne := d23_24 h rfl; exact ⟨by (repeat' (first | (with_reducible assumption) | ((with_reducible refine Blk.new ?_); first | rfl | (simp; done)) | (with_reducible refine Blk.later (by assumption) ?_) | (with_reducible refine Blk.alloc ?_) | (with_reducible refine Blk.drewN ?_) | (with_reducible refine Blk.drew ?_) | (with_reducible refine Blk.other ?_ (by first | omega | (simp; done) | (simp; omega))))), q⟩
      · intro _; exact ⟨by exact Blk.set (Blk.set (Blk.set (Blk.set (p24)))), q24⟩
      · exact d23_24
      · exact s23
      · intro _; rfl
    · have ge27 : gg27 = false := hi2
      have ge22 : gg22 = true := inv_dep ho hall 22 (by kernel_rfl)
      clear hall hi1 hi2
      subst ge27 ge22
      have ho2 := ho
      simp only [List.getElem?_toArray, List.getElem?_cons_zero, List.getElem?_cons_succ] at ho2
      have ho3 := Option.some.inj ho2; clear ho2; subst ho3
      obtain ⟨ba0, bb0⟩ := fb0.read; have bl0 := fb0.lt
      obtain ⟨ba1, bb1⟩ := fb1.read; have bl1 := fb1.lt
      obtain ⟨ba2, bb2⟩ := fb2.read; have bl2 := fb2.lt
      obtain ⟨ba3, bb3⟩ := fb3.read; have bl3 := fb3.lt
      obtain ⟨ba4, bb4⟩ := fb4.read; have bl4 := fb4.lt
      simp only [Act.put, List.setIfInBounds_toArray, List.set_cons_zero, List.set_cons_succ]
      simp only [cond_true, cond_false]
      refine inv_op ho (by kernel_rfl) (fun K hK => ?_)
      clear ho
      go_simp
      refine hK.out _ _ ?_
      unfold MeeI4
      refine ⟨gg0, gg1, gg2, gg3, gg4, gg5, gg6, gg7, gg8, gg9, gg10, gg11, gg12, gg13, gg14, gg15, gg16, gg17, gg18, gg19, gg20, gg21, true, gg23, gg24, gg25, gg26, true, x23, x24, rfl, by simp only [Act.put, List.setIfInBounds_toArray, List.set_cons_zero, List.set_cons_succ, cond_true, cond_false, Bool.cond_self], ?_, ?_, ?_, ?_, ?_, ?_, ?_, ?_, ?_, ?_, ?_, ?_⟩
      · exact fb0
      · exact fb1
      · exact fb2
      · exact fb3
      · exact fb4
      · exact fB
      · exact fL
      · exact f23
      · exact f24
      · exact d23_24
      · exact s23
      · exact s24
    · exfalso; simp at hi1; omega
  case hfin =>
    intro a w9 hI
    obtain ⟨gg0, gg1, gg2, gg3, gg4, gg5, gg6, gg7, gg8, gg9, gg10, gg11, gg12, gg13, gg14, gg15, gg16, gg17, gg18, gg19, gg20, gg21, gg22, gg23, gg24, gg25, gg26, gg27, x23, x24, hL, rfl, fb0, fb1, fb2, fb3, fb4, fB, fL, f23, f24, d23_24, s23, s24⟩ := hI
    have hL2 : #[true, true, true, true, true, true, true, true, true, true, true, true, true, true, true, true, true, true, true, true, true, true, true, true, true, true, true, true] = #[gg0, gg1, gg2, gg3, gg4, gg5, gg6, gg7, gg8, gg9, gg10, gg11, gg12, gg13, gg14, gg15, gg16, gg17, gg18, gg19, gg20, gg21, gg22, gg23, gg24, gg25, gg26, gg27] := hL
    cases hL2
    obtain ⟨p23, q23⟩ := f23 rfl
    obtain ⟨p24, q24⟩ := f24 rfl
    have n23_24 := d23_24 rfl rfl
    clear f23 f24 d23_24 s23 s24
    simp only [Act.put, List.setIfInBounds_toArray, List.set_cons_zero, List.set_cons_succ]
    simp only [cond_true]
    go_wp2_with fail
    go_ret
    exact ⟨rfl, belowThru hBw (by (repeat' (first | (with_reducible exact Below.refl _ _) | (with_reducible assumption) | (with_reducible refine belowThru ?_ (by assumption)) | (with_reducible refine belowAlloc ?_) | (with_reducible refine Below.setCell ?_ (by first | omega | (simp; done) | (simp; omega)) _) | (with_reducible refine Below.drew ?_) | (with_reducible refine below_drewN ?_ _))))⟩
/-- What holds of the region whichever operations have come up. -/
def MeeI0 (f1 f2 f3 f4 c1 c2 c3 c4 g1 g2 g3 g4 h1 h2 h3 h4 x1 x2 x3 x4 o1 o2 o3 o4 n P1 P2 Q1 Q2 R1 R2 S1 S2 u1 u2 v1 v2 : Int) (w w2 Wp : World) (i28 i29 i30 i31 i32 i33 i34 i35 i36 i37 i38 i39 i40 i41 i42 i43 i44 i45 i46 i27 i47 i48 i49 i12 i13 i14 : Value) (b9 : Act) (L9 : Array Bool) (a9 : Act) (w9 : World) : Prop :=
  ∃ (gg0 gg1 gg2 gg3 gg4 gg5 gg6 gg7 gg8 gg9 gg10 gg11 gg12 gg13 gg14 gg15 gg16 gg17 gg18 gg19 gg20 gg21 gg22 gg23 gg24 gg25 gg26 gg27 : Bool) (x23 x24 : Nat), L9 = #[gg0, gg1, gg2, gg3, gg4, gg5, gg6, gg7, gg8, gg9, gg10, gg11, gg12, gg13, gg14, gg15, gg16, gg17, gg18, gg19, gg20, gg21, gg22, gg23, gg24, gg25, gg26, gg27] ∧ a9 = ((((((((((((((((((((((((((b9).put (some 28) (cond gg0 (.func (.func 39) #[] #[.pointer (some ⟨w.heap.size + 1 + 1, 0, none⟩)]) (i28))).put (some 29) (cond gg1 (.pointer (some ⟨w.heap.size, 0, none⟩)) (i29))).put (some 30) (cond gg2 (.agg #[.int .i64 f1, .int .i64 f2, .int .i64 f3, .int .i64 f4]) (i30))).put (some 31) (cond gg3 (.agg #[.int .i64 P1, .int .i64 P2, .int .i64 P1, .int .i64 P2]) (i31))).put (some 32) (cond gg4 (.func (.func 39) #[] #[.pointer (some ⟨w.heap.size + 1 + 1, 0, none⟩)]) (i32))).put (some 33) (cond gg5 (.pointer (some ⟨w.heap.size, 4, none⟩)) (i33))).put (some 34) (cond gg6 (.agg #[.int .i64 c1, .int .i64 c2, .int .i64 c3, .int .i64 c4]) (i34))).put (some 35) (cond gg7 (.agg #[.int .i64 Q1, .int .i64 Q2, .int .i64 Q1, .int .i64 Q2]) (i35))).put (some 36) (cond gg8 (.agg #[.int .i64 P1, .int .i64 P2, .int .i64 P1, .int .i64 P2, .int .i64 Q1, .int .i64 Q2, .int .i64 Q1, .int .i64 Q2]) (i36))).put (some 37) (cond gg9 (.func (.func 39) #[] #[.pointer (some ⟨w.heap.size + 1 + 1, 0, none⟩)]) (i37))).put (some 38) (cond gg10 (.pointer (some ⟨(w.heap.size + 1), 0, none⟩)) (i38))).put (some 39) (cond gg11 (.agg #[.int .i64 g1, .int .i64 g2, .int .i64 g3, .int .i64 g4]) (i39))).put (some 40) (cond gg12 (.agg #[.int .i64 R1, .int .i64 R2, .int .i64 R1, .int .i64 R2]) (i40))).put (some 41) (cond gg13 (.func (.func 39) #[] #[.pointer (some ⟨w.heap.size + 1 + 1, 0, none⟩)]) (i41))).put (some 42) (cond gg14 (.pointer (some ⟨(w.heap.size + 1), 4, none⟩)) (i42))).put (some 43) (cond gg15 (.agg #[.int .i64 h1, .int .i64 h2, .int .i64 h3, .int .i64 h4]) (i43))).put (some 44) (cond gg16 (.agg #[.int .i64 S1, .int .i64 S2, .int .i64 S1, .int .i64 S2]) (i44))).put (some 45) (cond gg17 (.agg #[.int .i64 R1, .int .i64 R2, .int .i64 R1, .int .i64 R2, .int .i64 S1, .int .i64 S2, .int .i64 S1, .int .i64 S2]) (i45))).put (some 46) (cond gg18 (.tuple #[.agg #[.int .i64 u1, .int .i64 u2, .int .i64 u1, .int .i64 u2], .agg #[.int .i64 v1, .int .i64 v2, .int .i64 v1, .int .i64 v2], .int .i64 0]) (i46))).put (some 27) (cond gg19 (.tuple #[.agg #[.int .i64 u1, .int .i64 u2, .int .i64 u1, .int .i64 u2], .agg #[.int .i64 v1, .int .i64 v2, .int .i64 v1, .int .i64 v2], .int .i64 0]) (i27))).put (some 47) (cond gg20 (.agg #[.int .i64 u1, .int .i64 u2, .int .i64 u1, .int .i64 u2]) (i47))).put (some 48) (cond gg21 (.agg #[.int .i64 v1, .int .i64 v2, .int .i64 v1, .int .i64 v2]) (i48))).put (some 49) (cond gg22 (.int .i64 0) (i49))).put (some 12) (cond gg23 (.pointer (some ⟨x23, 0, none⟩)) (i12))).put (some 13) (cond gg24 (.pointer (some ⟨x24, 0, none⟩)) (i13))).put (some 14) (cond gg27 (.int .i64 0) (i14)) ∧ Blk w9 w.heap.size #[.int .i64 f1, .int .i64 f2, .int .i64 f3, .int .i64 f4, .int .i64 c1, .int .i64 c2, .int .i64 c3, .int .i64 c4] 39 ∧ Blk w9 (w.heap.size + 1) #[.int .i64 g1, .int .i64 g2, .int .i64 g3, .int .i64 g4, .int .i64 h1, .int .i64 h2, .int .i64 h3, .int .i64 h4] 39 ∧ Blk w9 (w.heap.size + 1 + 1) #[.int .u8 n] 5 ∧ Blk w9 (w2.heap.size) #[.int .i64 x1, .int .i64 x2, .int .i64 x3, .int .i64 x4] 30 ∧ Blk w9 (w2.heap.size + 1) #[.int .i64 o1, .int .i64 o2, .int .i64 o3, .int .i64 o4] 30 ∧ Below Wp.heap.size Wp w9 ∧ Wp.heap.size ≤ w9.heap.size ∧ (gg23 = true → Blk w9 x23 (cond gg25 #[.int .i64 u1, .int .i64 u2, .int .i64 u1, .int .i64 u2] #[.int .i64 0, .int .i64 0, .int .i64 0, .int .i64 0]) 30 ∧ Wp.heap.size ≤ x23) ∧ (gg24 = true → Blk w9 x24 (cond gg26 #[.int .i64 v1, .int .i64 v2, .int .i64 v1, .int .i64 v2] #[.int .i64 0, .int .i64 0, .int .i64 0, .int .i64 0]) 30 ∧ Wp.heap.size ≤ x24) ∧ (gg23 = true → gg24 = true → x23 ≠ x24) ∧ (gg25 = true → gg23 = true) ∧ (gg26 = true → gg24 = true)
set_option maxRecDepth 100000 in
set_option maxHeartbeats 16000000 in
theorem meets_3 (f1 f2 f3 f4 c1 c2 c3 c4 g1 g2 g3 g4 h1 h2 h3 h4 x1 x2 x3 x4 o1 o2 o3 o4 n P1 P2 Q1 Q2 R1 R2 S1 S2 u1 u2 v1 v2 : Int) (w : World) (HA : Hid (∀ w, Calls Try.prog 17 #[.agg #[.int .i64 f1, .int .i64 f2, .int .i64 f3, .int .i64 f4, .int .i64 c1, .int .i64 c2, .int .i64 c3, .int .i64 c4], .agg #[.int .i64 g1, .int .i64 g2, .int .i64 g3, .int .i64 g4, .int .i64 h1, .int .i64 h2, .int .i64 h3, .int .i64 h4]] w fun e w' => e = .returned (.tuple #[.agg #[.int .i64 x1, .int .i64 x2, .int .i64 x3, .int .i64 x4], .agg #[.int .i64 o1, .int .i64 o2, .int .i64 o3, .int .i64 o4], .int .i64 0]) ∧ Below w.heap.size w w')) (HO0 : Hid (∀ (B : Nat) (w : World), w.cell? ⟨B, 0, none⟩ = some (.int .u8 n) → Calls Try.prog 39 #[.agg #[.int .i64 f1, .int .i64 f2, .int .i64 f3, .int .i64 f4], .int .i64 0, .pointer (some ⟨B, 0, none⟩)] w fun e w' => e = .returned (.agg #[.int .i64 P1, .int .i64 P2, .int .i64 P1, .int .i64 P2]) ∧ Below w.heap.size w w')) (HO1 : Hid (∀ (B : Nat) (w : World), w.cell? ⟨B, 0, none⟩ = some (.int .u8 n) → Calls Try.prog 39 #[.agg #[.int .i64 c1, .int .i64 c2, .int .i64 c3, .int .i64 c4], .int .i64 1, .pointer (some ⟨B, 0, none⟩)] w fun e w' => e = .returned (.agg #[.int .i64 Q1, .int .i64 Q2, .int .i64 Q1, .int .i64 Q2]) ∧ Below w.heap.size w w')) (HO2 : Hid (∀ (B : Nat) (w : World), w.cell? ⟨B, 0, none⟩ = some (.int .u8 n) → Calls Try.prog 39 #[.agg #[.int .i64 g1, .int .i64 g2, .int .i64 g3, .int .i64 g4], .int .i64 2, .pointer (some ⟨B, 0, none⟩)] w fun e w' => e = .returned (.agg #[.int .i64 R1, .int .i64 R2, .int .i64 R1, .int .i64 R2]) ∧ Below w.heap.size w w')) (HO3 : Hid (∀ (B : Nat) (w : World), w.cell? ⟨B, 0, none⟩ = some (.int .u8 n) → Calls Try.prog 39 #[.agg #[.int .i64 h1, .int .i64 h2, .int .i64 h3, .int .i64 h4], .int .i64 3, .pointer (some ⟨B, 0, none⟩)] w fun e w' => e = .returned (.agg #[.int .i64 S1, .int .i64 S2, .int .i64 S1, .int .i64 S2]) ∧ Below w.heap.size w w')) (HB : Hid (∀ w, Calls Try.prog 17 #[.agg #[.int .i64 P1, .int .i64 P2, .int .i64 P1, .int .i64 P2, .int .i64 Q1, .int .i64 Q2, .int .i64 Q1, .int .i64 Q2], .agg #[.int .i64 R1, .int .i64 R2, .int .i64 R1, .int .i64 R2, .int .i64 S1, .int .i64 S2, .int .i64 S1, .int .i64 S2]] w fun e w' => e = .returned (.tuple #[.agg #[.int .i64 u1, .int .i64 u2, .int .i64 u1, .int .i64 u2], .agg #[.int .i64 v1, .int .i64 v2, .int .i64 v1, .int .i64 v2], .int .i64 0]) ∧ Below w.heap.size w w')) (HI1 : Hid (∀ w, Calls Try.prog 40 #[.agg #[.int .i64 u1, .int .i64 u2, .int .i64 u1, .int .i64 u2], .agg #[.int .i64 x1, .int .i64 x2, .int .i64 x3, .int .i64 x4]] w fun e w' => e = .returned (.bool true) ∧ Below w.heap.size w w')) (HI2 : Hid (∀ w, Calls Try.prog 40 #[.agg #[.int .i64 v1, .int .i64 v2, .int .i64 v1, .int .i64 v2], .agg #[.int .i64 o1, .int .i64 o2, .int .i64 o3, .int .i64 o4]] w fun e w' => e = .returned (.bool true) ∧ Below w.heap.size w w')) :
    Calls Try.prog 8 #[.agg #[.int .i64 f1, .int .i64 f2, .int .i64 f3, .int .i64 f4, .int .i64 c1, .int .i64 c2, .int .i64 c3, .int .i64 c4], .agg #[.int .i64 g1, .int .i64 g2, .int .i64 g3, .int .i64 g4, .int .i64 h1, .int .i64 h2, .int .i64 h3, .int .i64 h4], .int .u8 n] w fun e w' => e = .returned (.bool true) ∧ Below w.heap.size w w' := by
  go_enter Try.func8, Try.ntmps8
  go_wp2_with fail
  refine (alive_true _).mono ?_
  rintro e w1 ⟨rfl, hb⟩
  have kn0 : Blk w1 (w.heap.size) #[.int .i64 f1, .int .i64 f2, .int .i64 f3, .int .i64 f4, .int .i64 c1, .int .i64 c2, .int .i64 c3, .int .i64 c4] 39 := Blk.later hb (by (repeat' (first | (with_reducible assumption) | (with_reducible refine Blk.set2 ?_) | ((with_reducible refine Blk.new ?_); first | rfl | (simp; done)) | (with_reducible refine Blk.later (by assumption) ?_) | (with_reducible refine Blk.alloc ?_) | (with_reducible refine Blk.drewN ?_) | (with_reducible refine Blk.drew ?_) | (with_reducible refine Blk.other ?_ (by first | omega | (simp; done) | (simp; omega))))))
  have kn1 : Blk w1 (w.heap.size + 1) #[.int .i64 g1, .int .i64 g2, .int .i64 g3, .int .i64 g4, .int .i64 h1, .int .i64 h2, .int .i64 h3, .int .i64 h4] 39 := Blk.later hb (by (repeat' (first | (with_reducible assumption) | (with_reducible refine Blk.set2 ?_) | ((with_reducible refine Blk.new ?_); first | rfl | (simp; done)) | (with_reducible refine Blk.later (by assumption) ?_) | (with_reducible refine Blk.alloc ?_) | (with_reducible refine Blk.drewN ?_) | (with_reducible refine Blk.drew ?_) | (with_reducible refine Blk.other ?_ (by first | omega | (simp; done) | (simp; omega))))))
  have kn2 : Blk w1 (w.heap.size + 1 + 1) #[.int .u8 n] 5 := Blk.later hb (by (repeat' (first | (with_reducible assumption) | (with_reducible refine Blk.set2 ?_) | ((with_reducible refine Blk.new ?_); first | rfl | (simp; done)) | (with_reducible refine Blk.later (by assumption) ?_) | (with_reducible refine Blk.alloc ?_) | (with_reducible refine Blk.drewN ?_) | (with_reducible refine Blk.drew ?_) | (with_reducible refine Blk.other ?_ (by first | omega | (simp; done) | (simp; omega))))))
  have k0 := kn0; clear kn0; obtain ⟨a0, b0⟩ := k0.read; have y0 := k0.lt
  have k1 := kn1; clear kn1; obtain ⟨a1, b1⟩ := k1.read; have y1 := k1.lt
  have k2 := kn2; clear kn2; obtain ⟨a2, b2⟩ := k2.read; have y2 := k2.lt
  have hBw : Below w.heap.size w w1 := by (repeat' (first | (with_reducible exact Below.refl _ _) | (with_reducible assumption) | (with_reducible refine belowThru ?_ (by assumption)) | (with_reducible refine belowAlloc ?_) | (with_reducible refine Below.setCell ?_ (by first | omega | (simp; done) | (simp; omega)) _) | (with_reducible refine Below.drew ?_) | (with_reducible refine below_drewN ?_ _)))
  have hzw1 := hBw.size
  clear hb
  go_wp2_with fail
  refine (HA.out _).mono ?_
  rintro e w2 ⟨rfl, hb⟩
  have kn0 : Blk w2 (w.heap.size) #[.int .i64 f1, .int .i64 f2, .int .i64 f3, .int .i64 f4, .int .i64 c1, .int .i64 c2, .int .i64 c3, .int .i64 c4] 39 := Blk.later hb (by (repeat' (first | (with_reducible assumption) | (with_reducible refine Blk.set2 ?_) | ((with_reducible refine Blk.new ?_); first | rfl | (simp; done)) | (with_reducible refine Blk.later (by assumption) ?_) | (with_reducible refine Blk.alloc ?_) | (with_reducible refine Blk.drewN ?_) | (with_reducible refine Blk.drew ?_) | (with_reducible refine Blk.other ?_ (by first | omega | (simp; done) | (simp; omega))))))
  have kn1 : Blk w2 (w.heap.size + 1) #[.int .i64 g1, .int .i64 g2, .int .i64 g3, .int .i64 g4, .int .i64 h1, .int .i64 h2, .int .i64 h3, .int .i64 h4] 39 := Blk.later hb (by (repeat' (first | (with_reducible assumption) | (with_reducible refine Blk.set2 ?_) | ((with_reducible refine Blk.new ?_); first | rfl | (simp; done)) | (with_reducible refine Blk.later (by assumption) ?_) | (with_reducible refine Blk.alloc ?_) | (with_reducible refine Blk.drewN ?_) | (with_reducible refine Blk.drew ?_) | (with_reducible refine Blk.other ?_ (by first | omega | (simp; done) | (simp; omega))))))
  have kn2 : Blk w2 (w.heap.size + 1 + 1) #[.int .u8 n] 5 := Blk.later hb (by (repeat' (first | (with_reducible assumption) | (with_reducible refine Blk.set2 ?_) | ((with_reducible refine Blk.new ?_); first | rfl | (simp; done)) | (with_reducible refine Blk.later (by assumption) ?_) | (with_reducible refine Blk.alloc ?_) | (with_reducible refine Blk.drewN ?_) | (with_reducible refine Blk.drew ?_) | (with_reducible refine Blk.other ?_ (by first | omega | (simp; done) | (simp; omega))))))
  clear k0 a0 b0 y0
  clear k1 a1 b1 y1
  clear k2 a2 b2 y2
  have k0 := kn0; clear kn0; obtain ⟨a0, b0⟩ := k0.read; have y0 := k0.lt
  have k1 := kn1; clear kn1; obtain ⟨a1, b1⟩ := k1.read; have y1 := k1.lt
  have k2 := kn2; clear kn2; obtain ⟨a2, b2⟩ := k2.read; have y2 := k2.lt
  replace hBw : Below w.heap.size w w2 := belowThru (by (repeat' (first | (with_reducible exact Below.refl _ _) | (with_reducible assumption) | (with_reducible refine belowThru ?_ (by assumption)) | (with_reducible refine belowAlloc ?_) | (with_reducible refine Below.setCell ?_ (by first | omega | (simp; done) | (simp; omega)) _) | (with_reducible refine Below.drew ?_) | (with_reducible refine below_drewN ?_ _)))) hb
  have hzw2 := hBw.size
  clear hb
  go_wp2_with fail
  obtain ⟨Wp, hWp⟩ : ∃ Wp, ((w2.alloc (.cells #[.int .i64 x1, .int .i64 x2, .int .i64 x3, .int .i64 x4] 30)).alloc (.cells #[.int .i64 o1, .int .i64 o2, .int .i64 o3, .int .i64 o4] 30)) = Wp := ⟨_, rfl⟩
  have kn0 : Blk Wp (w.heap.size) #[.int .i64 f1, .int .i64 f2, .int .i64 f3, .int .i64 f4, .int .i64 c1, .int .i64 c2, .int .i64 c3, .int .i64 c4] 39 := by rw [← hWp]; (repeat' (first | (with_reducible assumption) | ((with_reducible refine Blk.new ?_); first | rfl | (simp; done)) | (with_reducible refine Blk.later (by assumption) ?_) | (with_reducible refine Blk.alloc ?_) | (with_reducible refine Blk.drewN ?_) | (with_reducible refine Blk.drew ?_) | (with_reducible refine Blk.other ?_ (by first | omega | (simp; done) | (simp; omega)))))
  have kn1 : Blk Wp (w.heap.size + 1) #[.int .i64 g1, .int .i64 g2, .int .i64 g3, .int .i64 g4, .int .i64 h1, .int .i64 h2, .int .i64 h3, .int .i64 h4] 39 := by rw [← hWp]; (repeat' (first | (with_reducible assumption) | ((with_reducible refine Blk.new ?_); first | rfl | (simp; done)) | (with_reducible refine Blk.later (by assumption) ?_) | (with_reducible refine Blk.alloc ?_) | (with_reducible refine Blk.drewN ?_) | (with_reducible refine Blk.drew ?_) | (with_reducible refine Blk.other ?_ (by first | omega | (simp; done) | (simp; omega)))))
  have kn2 : Blk Wp (w.heap.size + 1 + 1) #[.int .u8 n] 5 := by rw [← hWp]; (repeat' (first | (with_reducible assumption) | ((with_reducible refine Blk.new ?_); first | rfl | (simp; done)) | (with_reducible refine Blk.later (by assumption) ?_) | (with_reducible refine Blk.alloc ?_) | (with_reducible refine Blk.drewN ?_) | (with_reducible refine Blk.drew ?_) | (with_reducible refine Blk.other ?_ (by first | omega | (simp; done) | (simp; omega)))))
  have kn3 : Blk Wp (w2.heap.size) #[.int .i64 x1, .int .i64 x2, .int .i64 x3, .int .i64 x4] 30 := by rw [← hWp]; (repeat' (first | (with_reducible assumption) | ((with_reducible refine Blk.new ?_); first | rfl | (simp; done)) | (with_reducible refine Blk.later (by assumption) ?_) | (with_reducible refine Blk.alloc ?_) | (with_reducible refine Blk.drewN ?_) | (with_reducible refine Blk.drew ?_) | (with_reducible refine Blk.other ?_ (by first | omega | (simp; done) | (simp; omega)))))
  have kn4 : Blk Wp (w2.heap.size + 1) #[.int .i64 o1, .int .i64 o2, .int .i64 o3, .int .i64 o4] 30 := by rw [← hWp]; (repeat' (first | (with_reducible assumption) | ((with_reducible refine Blk.new ?_); first | rfl | (simp; done)) | (with_reducible refine Blk.later (by assumption) ?_) | (with_reducible refine Blk.alloc ?_) | (with_reducible refine Blk.drewN ?_) | (with_reducible refine Blk.drew ?_) | (with_reducible refine Blk.other ?_ (by first | omega | (simp; done) | (simp; omega)))))
  replace hBw : Below w.heap.size w Wp := by rw [← hWp]; (repeat' (first | (with_reducible exact Below.refl _ _) | (with_reducible assumption) | (with_reducible refine belowThru ?_ (by assumption)) | (with_reducible refine belowAlloc ?_) | (with_reducible refine Below.setCell ?_ (by first | omega | (simp; done) | (simp; omega)) _) | (with_reducible refine Below.drew ?_) | (with_reducible refine below_drewN ?_ _)))
  clear k0 a0 b0 y0
  clear k1 a1 b1 y1
  clear k2 a2 b2 y2
  rw [hWp]
  clear hWp
  have k0 := kn0; clear kn0; have y0 := k0.lt
  have k1 := kn1; clear kn1; have y1 := k1.lt
  have k2 := kn2; clear kn2; have y2 := k2.lt
  have k3 := kn3; clear kn3; have y3 := k3.lt
  have k4 := kn4; clear kn4; have y4 := k4.lt
  refine wp_region_inv (MeeI0 f1 f2 f3 f4 c1 c2 c3 c4 g1 g2 g3 g4 h1 h2 h3 h4 x1 x2 x3 x4 o1 o2 o3 o4 n P1 P2 Q1 Q2 R1 R2 S1 S2 u1 u2 v1 v2 w w2 Wp ?i28 ?i29 ?i30 ?i31 ?i32 ?i33 ?i34 ?i35 ?i36 ?i37 ?i38 ?i39 ?i40 ?i41 ?i42 ?i43 ?i44 ?i45 ?i46 ?i27 ?i47 ?i48 ?i49 ?i12 ?i13 ?i14) (by kernel_rfl) (by kernel_rfl) ?hsz ?hst ?hstep ?hfin
  case hst =>
    unfold MeeI0
    refine ⟨false, false, false, false, false, false, false, false, false, false, false, false, false, false, false, false, false, false, false, false, false, false, false, false, false, false, false, false, 0, 0, rfl, ?_, ?_, ?_, ?_, ?_, ?_, ?_, ?_, ?_, ?_, ?_, ?_, ?_⟩
    · first | (simp only [Act.put, List.setIfInBounds_toArray, List.set_cons_zero, List.set_cons_succ, cond_false]; done) | (simp only [Act.put, List.setIfInBounds_toArray, List.set_cons_zero, List.set_cons_succ, cond_false]; rfl)
    all_goals (first | (intro h; cases h; done) | ((repeat' (first | (with_reducible assumption) | ((with_reducible refine Blk.new ?_); first | rfl | (simp; done)) | (with_reducible refine Blk.later (by assumption) ?_) | (with_reducible refine Blk.alloc ?_) | (with_reducible refine Blk.drewN ?_) | (with_reducible refine Blk.drew ?_) | (with_reducible refine Blk.other ?_ (by first | omega | (simp; done) | (simp; omega))))); done) | ((repeat' (first | (with_reducible exact Below.refl _ _) | (with_reducible assumption) | (with_reducible refine belowThru ?_ (by assumption)) | (with_reducible refine belowAlloc ?_) | (with_reducible refine Below.setCell ?_ (by first | omega | (simp; done) | (simp; omega)) _) | (with_reducible refine Below.drew ?_) | (with_reducible refine below_drewN ?_ _))); done) | (simp only [cond_false]; (repeat' (first | (with_reducible assumption) | ((with_reducible refine Blk.new ?_); first | rfl | (simp; done)) | (with_reducible refine Blk.later (by assumption) ?_) | (with_reducible refine Blk.alloc ?_) | (with_reducible refine Blk.drewN ?_) | (with_reducible refine Blk.drew ?_) | (with_reducible refine Blk.other ?_ (by first | omega | (simp; done) | (simp; omega))))); done) | (simp only [World.size_drew]; omega) | (simp only [World.size_drew] at *; omega) | (simp; done) | (simp; omega))
  case hsz =>
    intro L a w9 h
    obtain ⟨gg0, gg1, gg2, gg3, gg4, gg5, gg6, gg7, gg8, gg9, gg10, gg11, gg12, gg13, gg14, gg15, gg16, gg17, gg18, gg19, gg20, gg21, gg22, gg23, gg24, gg25, gg26, gg27, x23, x24, rfl, -⟩ := h; rfl
  case hstep =>
    intro L a w9 hI i hi
    obtain ⟨gg0, gg1, gg2, gg3, gg4, gg5, gg6, gg7, gg8, gg9, gg10, gg11, gg12, gg13, gg14, gg15, gg16, gg17, gg18, gg19, gg20, gg21, gg22, gg23, gg24, gg25, gg26, gg27, x23, x24, rfl, rfl, fb0, fb1, fb2, fb3, fb4, fB, fL, f23, f24, d23_24, s23, s24⟩ := hI
    obtain ⟨hi1, hi2, o, ho, hall⟩ := inv_mem hi
    clear hi
    rcases i with _ | _ | _ | _ | _ | _ | _ | _ | _ | _ | _ | _ | _ | _ | _ | _ | _ | _ | _ | _ | _ | _ | _ | _ | _ | _ | _ | _ | i
    · have ge0 : gg0 = false := hi2
      clear hall hi1 hi2
      subst ge0
      have ho2 := ho
      simp only [List.getElem?_toArray, List.getElem?_cons_zero, List.getElem?_cons_succ] at ho2
      have ho3 := Option.some.inj ho2; clear ho2; subst ho3
      obtain ⟨ba0, bb0⟩ := fb0.read; have bl0 := fb0.lt
      obtain ⟨ba1, bb1⟩ := fb1.read; have bl1 := fb1.lt
      obtain ⟨ba2, bb2⟩ := fb2.read; have bl2 := fb2.lt
      obtain ⟨ba3, bb3⟩ := fb3.read; have bl3 := fb3.lt
      obtain ⟨ba4, bb4⟩ := fb4.read; have bl4 := fb4.lt
      simp only [Act.put, List.setIfInBounds_toArray, List.set_cons_zero, List.set_cons_succ]
      simp only [cond_true, cond_false]
      refine inv_op ho (by kernel_rfl) (fun K hK => ?_)
      clear ho
      go_simp
      refine hK.out _ _ ?_
      unfold MeeI0
      refine ⟨true, gg1, gg2, gg3, gg4, gg5, gg6, gg7, gg8, gg9, gg10, gg11, gg12, gg13, gg14, gg15, gg16, gg17, gg18, gg19, gg20, gg21, gg22, gg23, gg24, gg25, gg26, gg27, x23, x24, rfl, by simp only [Act.put, List.setIfInBounds_toArray, List.set_cons_zero, List.set_cons_succ, cond_true, cond_false, Bool.cond_self], ?_, ?_, ?_, ?_, ?_, ?_, ?_, ?_, ?_, ?_, ?_, ?_⟩
      · exact fb0
      · exact fb1
      · exact fb2
      · exact fb3
      · exact fb4
      · exact fB
      · exact fL
      · exact f23
      · exact f24
      · exact d23_24
      · exact s23
      · exact s24
    · have ge1 : gg1 = false := hi2
      clear hall hi1 hi2
      subst ge1
      have ho2 := ho
      simp only [List.getElem?_toArray, List.getElem?_cons_zero, List.getElem?_cons_succ] at ho2
      have ho3 := Option.some.inj ho2; clear ho2; subst ho3
      obtain ⟨ba0, bb0⟩ := fb0.read; have bl0 := fb0.lt
      obtain ⟨ba1, bb1⟩ := fb1.read; have bl1 := fb1.lt
      obtain ⟨ba2, bb2⟩ := fb2.read; have bl2 := fb2.lt
      obtain ⟨ba3, bb3⟩ := fb3.read; have bl3 := fb3.lt
      obtain ⟨ba4, bb4⟩ := fb4.read; have bl4 := fb4.lt
      simp only [Act.put, List.setIfInBounds_toArray, List.set_cons_zero, List.set_cons_succ]
      simp only [cond_true, cond_false]
      refine inv_op ho (by kernel_rfl) (fun K hK => ?_)
      clear ho
      go_simp
      refine hK.out _ _ ?_
      unfold MeeI0
      refine ⟨gg0, true, gg2, gg3, gg4, gg5, gg6, gg7, gg8, gg9, gg10, gg11, gg12, gg13, gg14, gg15, gg16, gg17, gg18, gg19, gg20, gg21, gg22, gg23, gg24, gg25, gg26, gg27, x23, x24, rfl, by simp only [Act.put, List.setIfInBounds_toArray, List.set_cons_zero, List.set_cons_succ, cond_true, cond_false, Bool.cond_self], ?_, ?_, ?_, ?_, ?_, ?_, ?_, ?_, ?_, ?_, ?_, ?_⟩
      · exact fb0
      · exact fb1
      · exact fb2
      · exact fb3
      · exact fb4
      · exact fB
      · exact fL
      · exact f23
      · exact f24
      · exact d23_24
      · exact s23
      · exact s24
    · have ge2 : gg2 = false := hi2
      have ge1 : gg1 = true := inv_dep ho hall 1 (by kernel_rfl)
      clear hall hi1 hi2
      subst ge2 ge1
      have ho2 := ho
      simp only [List.getElem?_toArray, List.getElem?_cons_zero, List.getElem?_cons_succ] at ho2
      have ho3 := Option.some.inj ho2; clear ho2; subst ho3
      obtain ⟨ba0, bb0⟩ := fb0.read; have bl0 := fb0.lt
      obtain ⟨ba1, bb1⟩ := fb1.read; have bl1 := fb1.lt
      obtain ⟨ba2, bb2⟩ := fb2.read; have bl2 := fb2.lt
      obtain ⟨ba3, bb3⟩ := fb3.read; have bl3 := fb3.lt
      obtain ⟨ba4, bb4⟩ := fb4.read; have bl4 := fb4.lt
      simp only [Act.put, List.setIfInBounds_toArray, List.set_cons_zero, List.set_cons_succ]
      simp only [cond_true, cond_false]
      refine inv_op ho (by kernel_rfl) (fun K hK => ?_)
      clear ho
      go_simp
      refine hK.out _ _ ?_
      unfold MeeI0
      refine ⟨gg0, true, true, gg3, gg4, gg5, gg6, gg7, gg8, gg9, gg10, gg11, gg12, gg13, gg14, gg15, gg16, gg17, gg18, gg19, gg20, gg21, gg22, gg23, gg24, gg25, gg26, gg27, x23, x24, rfl, by simp only [Act.put, List.setIfInBounds_toArray, List.set_cons_zero, List.set_cons_succ, cond_true, cond_false, Bool.cond_self], ?_, ?_, ?_, ?_, ?_, ?_, ?_, ?_, ?_, ?_, ?_, ?_⟩
      · exact fb0
      · exact fb1
      · exact fb2
      · exact fb3
      · exact fb4
      · exact fB
      · exact fL
      · exact f23
      · exact f24
      · exact d23_24
      · exact s23
      · exact s24
    · have ge3 : gg3 = false := hi2
      have ge0 : gg0 = true := inv_dep ho hall 0 (by kernel_rfl)
      have ge2 : gg2 = true := inv_dep ho hall 2 (by kernel_rfl)
      clear hall hi1 hi2
      subst ge3 ge0 ge2
      have ho2 := ho
      simp only [List.getElem?_toArray, List.getElem?_cons_zero, List.getElem?_cons_succ] at ho2
      have ho3 := Option.some.inj ho2; clear ho2; subst ho3
      obtain ⟨ba0, bb0⟩ := fb0.read; have bl0 := fb0.lt
      obtain ⟨ba1, bb1⟩ := fb1.read; have bl1 := fb1.lt
      obtain ⟨ba2, bb2⟩ := fb2.read; have bl2 := fb2.lt
      obtain ⟨ba3, bb3⟩ := fb3.read; have bl3 := fb3.lt
      obtain ⟨ba4, bb4⟩ := fb4.read; have bl4 := fb4.lt
      simp only [Act.put, List.setIfInBounds_toArray, List.set_cons_zero, List.set_cons_succ]
      simp only [cond_true, cond_false]
      refine inv_op ho (by kernel_rfl) (fun K hK => ?_)
      clear ho
      go_simp
      go_at_call 39; (with_reducible refine (HO0.out _ _ (by rw [ba2]; simp)).mono ?_); rintro e w8 ⟨rfl, hb⟩
      refine hK.out _ _ ?_
      unfold MeeI0
      refine ⟨true, gg1, true, true, gg4, gg5, gg6, gg7, gg8, gg9, gg10, gg11, gg12, gg13, gg14, gg15, gg16, gg17, gg18, gg19, gg20, gg21, gg22, gg23, gg24, gg25, gg26, gg27, x23, x24, rfl, by simp only [Act.put, List.setIfInBounds_toArray, List.set_cons_zero, List.set_cons_succ, cond_true, cond_false, Bool.cond_self], ?_, ?_, ?_, ?_, ?_, ?_, ?_, ?_, ?_, ?_, ?_, ?_⟩
      · exact Blk.later hb fb0
      · exact Blk.later hb fb1
      · exact Blk.later hb fb2
      · exact Blk.later hb fb3
      · exact Blk.later hb fb4
      · exact belowThru fB hb
      · have := hb.size; omega
      · intro h; obtain ⟨p, q⟩ := f23 h; exact ⟨Blk.later hb p, q⟩
      · intro h; obtain ⟨p, q⟩ := f24 h; exact ⟨Blk.later hb p, q⟩
      · exact d23_24
      · exact s23
      · exact s24
    · have ge4 : gg4 = false := hi2
      clear hall hi1 hi2
      subst ge4
      have ho2 := ho
      simp only [List.getElem?_toArray, List.getElem?_cons_zero, List.getElem?_cons_succ] at ho2
      have ho3 := Option.some.inj ho2; clear ho2; subst ho3
      obtain ⟨ba0, bb0⟩ := fb0.read; have bl0 := fb0.lt
      obtain ⟨ba1, bb1⟩ := fb1.read; have bl1 := fb1.lt
      obtain ⟨ba2, bb2⟩ := fb2.read; have bl2 := fb2.lt
      obtain ⟨ba3, bb3⟩ := fb3.read; have bl3 := fb3.lt
      obtain ⟨ba4, bb4⟩ := fb4.read; have bl4 := fb4.lt
      simp only [Act.put, List.setIfInBounds_toArray, List.set_cons_zero, List.set_cons_succ]
      simp only [cond_true, cond_false]
      refine inv_op ho (by kernel_rfl) (fun K hK => ?_)
      clear ho
      go_simp
      refine hK.out _ _ ?_
      unfold MeeI0
      refine ⟨gg0, gg1, gg2, gg3, true, gg5, gg6, gg7, gg8, gg9, gg10, gg11, gg12, gg13, gg14, gg15, gg16, gg17, gg18, gg19, gg20, gg21, gg22, gg23, gg24, gg25, gg26, gg27, x23, x24, rfl, by simp only [Act.put, List.setIfInBounds_toArray, List.set_cons_zero, List.set_cons_succ, cond_true, cond_false, Bool.cond_self], ?_, ?_, ?_, ?_, ?_, ?_, ?_, ?_, ?_, ?_, ?_, ?_⟩
      · exact fb0
      · exact fb1
      · exact fb2
      · exact fb3
      · exact fb4
      · exact fB
      · exact fL
      · exact f23
      · exact f24
      · exact d23_24
      · exact s23
      · exact s24
    · have ge5 : gg5 = false := hi2
      clear hall hi1 hi2
      subst ge5
      have ho2 := ho
      simp only [List.getElem?_toArray, List.getElem?_cons_zero, List.getElem?_cons_succ] at ho2
      have ho3 := Option.some.inj ho2; clear ho2; subst ho3
      obtain ⟨ba0, bb0⟩ := fb0.read; have bl0 := fb0.lt
      obtain ⟨ba1, bb1⟩ := fb1.read; have bl1 := fb1.lt
      obtain ⟨ba2, bb2⟩ := fb2.read; have bl2 := fb2.lt
      obtain ⟨ba3, bb3⟩ := fb3.read; have bl3 := fb3.lt
      obtain ⟨ba4, bb4⟩ := fb4.read; have bl4 := fb4.lt
      simp only [Act.put, List.setIfInBounds_toArray, List.set_cons_zero, List.set_cons_succ]
      simp only [cond_true, cond_false]
      refine inv_op ho (by kernel_rfl) (fun K hK => ?_)
      clear ho
      go_simp
      refine hK.out _ _ ?_
      unfold MeeI0
      refine ⟨gg0, gg1, gg2, gg3, gg4, true, gg6, gg7, gg8, gg9, gg10, gg11, gg12, gg13, gg14, gg15, gg16, gg17, gg18, gg19, gg20, gg21, gg22, gg23, gg24, gg25, gg26, gg27, x23, x24, rfl, by simp only [Act.put, List.setIfInBounds_toArray, List.set_cons_zero, List.set_cons_succ, cond_true, cond_false, Bool.cond_self], ?_, ?_, ?_, ?_, ?_, ?_, ?_, ?_, ?_, ?_, ?_, ?_⟩
      · exact fb0
      · exact fb1
      · exact fb2
      · exact fb3
      · exact fb4
      · exact fB
      · exact fL
      · exact f23
      · exact f24
      · exact d23_24
      · exact s23
      · exact s24
    · have ge6 : gg6 = false := hi2
      have ge5 : gg5 = true := inv_dep ho hall 5 (by kernel_rfl)
      clear hall hi1 hi2
      subst ge6 ge5
      have ho2 := ho
      simp only [List.getElem?_toArray, List.getElem?_cons_zero, List.getElem?_cons_succ] at ho2
      have ho3 := Option.some.inj ho2; clear ho2; subst ho3
      obtain ⟨ba0, bb0⟩ := fb0.read; have bl0 := fb0.lt
      obtain ⟨ba1, bb1⟩ := fb1.read; have bl1 := fb1.lt
      obtain ⟨ba2, bb2⟩ := fb2.read; have bl2 := fb2.lt
      obtain ⟨ba3, bb3⟩ := fb3.read; have bl3 := fb3.lt
      obtain ⟨ba4, bb4⟩ := fb4.read; have bl4 := fb4.lt
      simp only [Act.put, List.setIfInBounds_toArray, List.set_cons_zero, List.set_cons_succ]
      simp only [cond_true, cond_false]
      refine inv_op ho (by kernel_rfl) (fun K hK => ?_)
      clear ho
      go_simp
      refine hK.out _ _ ?_
      unfold MeeI0
      refine ⟨gg0, gg1, gg2, gg3, gg4, true, true, gg7, gg8, gg9, gg10, gg11, gg12, gg13, gg14, gg15, gg16, gg17, gg18, gg19, gg20, gg21, gg22, gg23, gg24, gg25, gg26, gg27, x23, x24, rfl, by simp only [Act.put, List.setIfInBounds_toArray, List.set_cons_zero, List.set_cons_succ, cond_true, cond_false, Bool.cond_self], ?_, ?_, ?_, ?_, ?_, ?_, ?_, ?_, ?_, ?_, ?_, ?_⟩
      · exact fb0
      · exact fb1
      · exact fb2
      · exact fb3
      · exact fb4
      · exact fB
      · exact fL
      · exact f23
      · exact f24
      · exact d23_24
      · exact s23
      · exact s24
    · have ge7 : gg7 = false := hi2
      have ge4 : gg4 = true := inv_dep ho hall 4 (by kernel_rfl)
      have ge6 : gg6 = true := inv_dep ho hall 6 (by kernel_rfl)
      clear hall hi1 hi2
      subst ge7 ge4 ge6
      have ho2 := ho
      simp only [List.getElem?_toArray, List.getElem?_cons_zero, List.getElem?_cons_succ] at ho2
      have ho3 := Option.some.inj ho2; clear ho2; subst ho3
      obtain ⟨ba0, bb0⟩ := fb0.read; have bl0 := fb0.lt
      obtain ⟨ba1, bb1⟩ := fb1.read; have bl1 := fb1.lt
      obtain ⟨ba2, bb2⟩ := fb2.read; have bl2 := fb2.lt
      obtain ⟨ba3, bb3⟩ := fb3.read; have bl3 := fb3.lt
      obtain ⟨ba4, bb4⟩ := fb4.read; have bl4 := fb4.lt
      simp only [Act.put, List.setIfInBounds_toArray, List.set_cons_zero, List.set_cons_succ]
      simp only [cond_true, cond_false]
      refine inv_op ho (by kernel_rfl) (fun K hK => ?_)
      clear ho
      go_simp
      go_at_call 39; (with_reducible refine (HO1.out _ _ (by rw [ba2]; simp)).mono ?_); rintro e w8 ⟨rfl, hb⟩
      refine hK.out _ _ ?_
      unfold MeeI0
      refine ⟨gg0, gg1, gg2, gg3, true, gg5, true, true, gg8, gg9, gg10, gg11, gg12, gg13, gg14, gg15, gg16, gg17, gg18, gg19, gg20, gg21, gg22, gg23, gg24, gg25, gg26, gg27, x23, x24, rfl, by simp only [Act.put, List.setIfInBounds_toArray, List.set_cons_zero, List.set_cons_succ, cond_true, cond_false, Bool.cond_self], ?_, ?_, ?_, ?_, ?_, ?_, ?_, ?_, ?_, ?_, ?_, ?_⟩
      · exact Blk.later hb fb0
      · exact Blk.later hb fb1
      · exact Blk.later hb fb2
      · exact Blk.later hb fb3
      · exact Blk.later hb fb4
      · exact belowThru fB hb
      · have := hb.size; omega
      · intro h; obtain ⟨p, q⟩ := f23 h; exact ⟨Blk.later hb p, q⟩
      · intro h; obtain ⟨p, q⟩ := f24 h; exact ⟨Blk.later hb p, q⟩
      · exact d23_24
      · exact s23
      · exact s24
    · have ge8 : gg8 = false := hi2
      have ge3 : gg3 = true := inv_dep ho hall 3 (by kernel_rfl)
      have ge7 : gg7 = true := inv_dep ho hall 7 (by kernel_rfl)
      clear hall hi1 hi2
      subst ge8 ge3 ge7
      have ho2 := ho
      simp only [List.getElem?_toArray, List.getElem?_cons_zero, List.getElem?_cons_succ] at ho2
      have ho3 := Option.some.inj ho2; clear ho2; subst ho3
      obtain ⟨ba0, bb0⟩ := fb0.read; have bl0 := fb0.lt
      obtain ⟨ba1, bb1⟩ := fb1.read; have bl1 := fb1.lt
      obtain ⟨ba2, bb2⟩ := fb2.read; have bl2 := fb2.lt
      obtain ⟨ba3, bb3⟩ := fb3.read; have bl3 := fb3.lt
      obtain ⟨ba4, bb4⟩ := fb4.read; have bl4 := fb4.lt
      simp only [Act.put, List.setIfInBounds_toArray, List.set_cons_zero, List.set_cons_succ]
      simp only [cond_true, cond_false]
      refine inv_op ho (by kernel_rfl) (fun K hK => ?_)
      clear ho
      go_simp
      refine hK.out _ _ ?_
      unfold MeeI0
      refine ⟨gg0, gg1, gg2, true, gg4, gg5, gg6, true, true, gg9, gg10, gg11, gg12, gg13, gg14, gg15, gg16, gg17, gg18, gg19, gg20, gg21, gg22, gg23, gg24, gg25, gg26, gg27, x23, x24, rfl, by simp only [Act.put, List.setIfInBounds_toArray, List.set_cons_zero, List.set_cons_succ, cond_true, cond_false, Bool.cond_self], ?_, ?_, ?_, ?_, ?_, ?_, ?_, ?_, ?_, ?_, ?_, ?_⟩
      · exact fb0
      · exact fb1
      · exact fb2
      · exact fb3
      · exact fb4
      · exact fB
      · exact fL
      · exact f23
      · exact f24
      · exact d23_24
      · exact s23
      · exact s24
    · have ge9 : gg9 = false := hi2
      clear hall hi1 hi2
      subst ge9
      have ho2 := ho
      simp only [List.getElem?_toArray, List.getElem?_cons_zero, List.getElem?_cons_succ] at ho2
      have ho3 := Option.some.inj ho2; clear ho2; subst ho3
      obtain ⟨ba0, bb0⟩ := fb0.read; have bl0 := fb0.lt
      obtain ⟨ba1, bb1⟩ := fb1.read; have bl1 := fb1.lt
      obtain ⟨ba2, bb2⟩ := fb2.read; have bl2 := fb2.lt
      obtain ⟨ba3, bb3⟩ := fb3.read; have bl3 := fb3.lt
      obtain ⟨ba4, bb4⟩ := fb4.read; have bl4 := fb4.lt
      simp only [Act.put, List.setIfInBounds_toArray, List.set_cons_zero, List.set_cons_succ]
      simp only [cond_true, cond_false]
      refine inv_op ho (by kernel_rfl) (fun K hK => ?_)
      clear ho
      go_simp
      refine hK.out _ _ ?_
      unfold MeeI0
      refine ⟨gg0, gg1, gg2, gg3, gg4, gg5, gg6, gg7, gg8, true, gg10, gg11, gg12, gg13, gg14, gg15, gg16, gg17, gg18, gg19, gg20, gg21, gg22, gg23, gg24, gg25, gg26, gg27, x23, x24, rfl, by simp only [Act.put, List.setIfInBounds_toArray, List.set_cons_zero, List.set_cons_succ, cond_true, cond_false, Bool.cond_self], ?_, ?_, ?_, ?_, ?_, ?_, ?_, ?_, ?_, ?_, ?_, ?_⟩
      · exact fb0
      · exact fb1
      · exact fb2
      · exact fb3
      · exact fb4
      · exact fB
      · exact fL
      · exact f23
      · exact f24
      · exact d23_24
      · exact s23
      · exact s24
    · have ge10 : gg10 = false := hi2
      clear hall hi1 hi2
      subst ge10
      have ho2 := ho
      simp only [List.getElem?_toArray, List.getElem?_cons_zero, List.getElem?_cons_succ] at ho2
      have ho3 := Option.some.inj ho2; clear ho2; subst ho3
      obtain ⟨ba0, bb0⟩ := fb0.read; have bl0 := fb0.lt
      obtain ⟨ba1, bb1⟩ := fb1.read; have bl1 := fb1.lt
      obtain ⟨ba2, bb2⟩ := fb2.read; have bl2 := fb2.lt
      obtain ⟨ba3, bb3⟩ := fb3.read; have bl3 := fb3.lt
      obtain ⟨ba4, bb4⟩ := fb4.read; have bl4 := fb4.lt
      simp only [Act.put, List.setIfInBounds_toArray, List.set_cons_zero, List.set_cons_succ]
      simp only [cond_true, cond_false]
      refine inv_op ho (by kernel_rfl) (fun K hK => ?_)
      clear ho
      go_simp
      refine hK.out _ _ ?_
      unfold MeeI0
      refine ⟨gg0, gg1, gg2, gg3, gg4, gg5, gg6, gg7, gg8, gg9, true, gg11, gg12, gg13, gg14, gg15, gg16, gg17, gg18, gg19, gg20, gg21, gg22, gg23, gg24, gg25, gg26, gg27, x23, x24, rfl, by simp only [Act.put, List.setIfInBounds_toArray, List.set_cons_zero, List.set_cons_succ, cond_true, cond_false, Bool.cond_self], ?_, ?_, ?_, ?_, ?_, ?_, ?_, ?_, ?_, ?_, ?_, ?_⟩
      · exact fb0
      · exact fb1
      · exact fb2
      · exact fb3
      · exact fb4
      · exact fB
      · exact fL
      · exact f23
      · exact f24
      · exact d23_24
      · exact s23
      · exact s24
    · have ge11 : gg11 = false := hi2
      have ge10 : gg10 = true := inv_dep ho hall 10 (by kernel_rfl)
      clear hall hi1 hi2
      subst ge11 ge10
      have ho2 := ho
      simp only [List.getElem?_toArray, List.getElem?_cons_zero, List.getElem?_cons_succ] at ho2
      have ho3 := Option.some.inj ho2; clear ho2; subst ho3
      obtain ⟨ba0, bb0⟩ := fb0.read; have bl0 := fb0.lt
      obtain ⟨ba1, bb1⟩ := fb1.read; have bl1 := fb1.lt
      obtain ⟨ba2, bb2⟩ := fb2.read; have bl2 := fb2.lt
      obtain ⟨ba3, bb3⟩ := fb3.read; have bl3 := fb3.lt
      obtain ⟨ba4, bb4⟩ := fb4.read; have bl4 := fb4.lt
      simp only [Act.put, List.setIfInBounds_toArray, List.set_cons_zero, List.set_cons_succ]
      simp only [cond_true, cond_false]
      refine inv_op ho (by kernel_rfl) (fun K hK => ?_)
      clear ho
      go_simp
      refine hK.out _ _ ?_
      unfold MeeI0
      refine ⟨gg0, gg1, gg2, gg3, gg4, gg5, gg6, gg7, gg8, gg9, true, true, gg12, gg13, gg14, gg15, gg16, gg17, gg18, gg19, gg20, gg21, gg22, gg23, gg24, gg25, gg26, gg27, x23, x24, rfl, by simp only [Act.put, List.setIfInBounds_toArray, List.set_cons_zero, List.set_cons_succ, cond_true, cond_false, Bool.cond_self], ?_, ?_, ?_, ?_, ?_, ?_, ?_, ?_, ?_, ?_, ?_, ?_⟩
      · exact fb0
      · exact fb1
      · exact fb2
      · exact fb3
      · exact fb4
      · exact fB
      · exact fL
      · exact f23
      · exact f24
      · exact d23_24
      · exact s23
      · exact s24
    · have ge12 : gg12 = false := hi2
      have ge9 : gg9 = true := inv_dep ho hall 9 (by kernel_rfl)
      have ge11 : gg11 = true := inv_dep ho hall 11 (by kernel_rfl)
      clear hall hi1 hi2
      subst ge12 ge9 ge11
      have ho2 := ho
      simp only [List.getElem?_toArray, List.getElem?_cons_zero, List.getElem?_cons_succ] at ho2
      have ho3 := Option.some.inj ho2; clear ho2; subst ho3
      obtain ⟨ba0, bb0⟩ := fb0.read; have bl0 := fb0.lt
      obtain ⟨ba1, bb1⟩ := fb1.read; have bl1 := fb1.lt
      obtain ⟨ba2, bb2⟩ := fb2.read; have bl2 := fb2.lt
      obtain ⟨ba3, bb3⟩ := fb3.read; have bl3 := fb3.lt
      obtain ⟨ba4, bb4⟩ := fb4.read; have bl4 := fb4.lt
      simp only [Act.put, List.setIfInBounds_toArray, List.set_cons_zero, List.set_cons_succ]
      simp only [cond_true, cond_false]
      refine inv_op ho (by kernel_rfl) (fun K hK => ?_)
      clear ho
      go_simp
      go_at_call 39; (with_reducible refine (HO2.out _ _ (by rw [ba2]; simp)).mono ?_); rintro e w8 ⟨rfl, hb⟩
      refine hK.out _ _ ?_
      unfold MeeI0
      refine ⟨gg0, gg1, gg2, gg3, gg4, gg5, gg6, gg7, gg8, true, gg10, true, true, gg13, gg14, gg15, gg16, gg17, gg18, gg19, gg20, gg21, gg22, gg23, gg24, gg25, gg26, gg27, x23, x24, rfl, by simp only [Act.put, List.setIfInBounds_toArray, List.set_cons_zero, List.set_cons_succ, cond_true, cond_false, Bool.cond_self], ?_, ?_, ?_, ?_, ?_, ?_, ?_, ?_, ?_, ?_, ?_, ?_⟩
      · exact Blk.later hb fb0
      · exact Blk.later hb fb1
      · exact Blk.later hb fb2
      · exact Blk.later hb fb3
      · exact Blk.later hb fb4
      · exact belowThru fB hb
      · have := hb.size; omega
      · intro h; obtain ⟨p, q⟩ := f23 h; exact ⟨Blk.later hb p, q⟩
      · intro h; obtain ⟨p, q⟩ := f24 h; exact ⟨Blk.later hb p, q⟩
      · exact d23_24
      · exact s23
      · exact s24
    · have ge13 : gg13 = false := hi2
      clear hall hi1 hi2
      subst ge13
      have ho2 := ho
      simp only [List.getElem?_toArray, List.getElem?_cons_zero, List.getElem?_cons_succ] at ho2
      have ho3 := Option.some.inj ho2; clear ho2; subst ho3
      obtain ⟨ba0, bb0⟩ := fb0.read; have bl0 := fb0.lt
      obtain ⟨ba1, bb1⟩ := fb1.read; have bl1 := fb1.lt
      obtain ⟨ba2, bb2⟩ := fb2.read; have bl2 := fb2.lt
      obtain ⟨ba3, bb3⟩ := fb3.read; have bl3 := fb3.lt
      obtain ⟨ba4, bb4⟩ := fb4.read; have bl4 := fb4.lt
      simp only [Act.put, List.setIfInBounds_toArray, List.set_cons_zero, List.set_cons_succ]
      simp only [cond_true, cond_false]
      refine inv_op ho (by kernel_rfl) (fun K hK => ?_)
      clear ho
      go_simp
      refine hK.out _ _ ?_
      unfold MeeI0
      refine ⟨gg0, gg1, gg2, gg3, gg4, gg5, gg6, gg7, gg8, gg9, gg10, gg11, gg12, true, gg14, gg15, gg16, gg17, gg18, gg19, gg20, gg21, gg22, gg23, gg24, gg25, gg26, gg27, x23, x24, rfl, by simp only [Act.put, List.setIfInBounds_toArray, List.set_cons_zero, List.set_cons_succ, cond_true, cond_false, Bool.cond_self], ?_, ?_, ?_, ?_, ?_, ?_, ?_, ?_, ?_, ?_, ?_, ?_⟩
      · exact fb0
      · exact fb1
      · exact fb2
      · exact fb3
      · exact fb4
      · exact fB
      · exact fL
      · exact f23
      · exact f24
      · exact d23_24
      · exact s23
      · exact s24
    · have ge14 : gg14 = false := hi2
      clear hall hi1 hi2
      subst ge14
      have ho2 := ho
      simp only [List.getElem?_toArray, List.getElem?_cons_zero, List.getElem?_cons_succ] at ho2
      have ho3 := Option.some.inj ho2; clear ho2; subst ho3
      obtain ⟨ba0, bb0⟩ := fb0.read; have bl0 := fb0.lt
      obtain ⟨ba1, bb1⟩ := fb1.read; have bl1 := fb1.lt
      obtain ⟨ba2, bb2⟩ := fb2.read; have bl2 := fb2.lt
      obtain ⟨ba3, bb3⟩ := fb3.read; have bl3 := fb3.lt
      obtain ⟨ba4, bb4⟩ := fb4.read; have bl4 := fb4.lt
      simp only [Act.put, List.setIfInBounds_toArray, List.set_cons_zero, List.set_cons_succ]
      simp only [cond_true, cond_false]
      refine inv_op ho (by kernel_rfl) (fun K hK => ?_)
      clear ho
      go_simp
      refine hK.out _ _ ?_
      unfold MeeI0
      refine ⟨gg0, gg1, gg2, gg3, gg4, gg5, gg6, gg7, gg8, gg9, gg10, gg11, gg12, gg13, true, gg15, gg16, gg17, gg18, gg19, gg20, gg21, gg22, gg23, gg24, gg25, gg26, gg27, x23, x24, rfl, by simp only [Act.put, List.setIfInBounds_toArray, List.set_cons_zero, List.set_cons_succ, cond_true, cond_false, Bool.cond_self], ?_, ?_, ?_, ?_, ?_, ?_, ?_, ?_, ?_, ?_, ?_, ?_⟩
      · exact fb0
      · exact fb1
      · exact fb2
      · exact fb3
      · exact fb4
      · exact fB
      · exact fL
      · exact f23
      · exact f24
      · exact d23_24
      · exact s23
      · exact s24
    · have ge15 : gg15 = false := hi2
      have ge14 : gg14 = true := inv_dep ho hall 14 (by kernel_rfl)
      clear hall hi1 hi2
      subst ge15 ge14
      have ho2 := ho
      simp only [List.getElem?_toArray, List.getElem?_cons_zero, List.getElem?_cons_succ] at ho2
      have ho3 := Option.some.inj ho2; clear ho2; subst ho3
      obtain ⟨ba0, bb0⟩ := fb0.read; have bl0 := fb0.lt
      obtain ⟨ba1, bb1⟩ := fb1.read; have bl1 := fb1.lt
      obtain ⟨ba2, bb2⟩ := fb2.read; have bl2 := fb2.lt
      obtain ⟨ba3, bb3⟩ := fb3.read; have bl3 := fb3.lt
      obtain ⟨ba4, bb4⟩ := fb4.read; have bl4 := fb4.lt
      simp only [Act.put, List.setIfInBounds_toArray, List.set_cons_zero, List.set_cons_succ]
      simp only [cond_true, cond_false]
      refine inv_op ho (by kernel_rfl) (fun K hK => ?_)
      clear ho
      go_simp
      refine hK.out _ _ ?_
      unfold MeeI0
      refine ⟨gg0, gg1, gg2, gg3, gg4, gg5, gg6, gg7, gg8, gg9, gg10, gg11, gg12, gg13, true, true, gg16, gg17, gg18, gg19, gg20, gg21, gg22, gg23, gg24, gg25, gg26, gg27, x23, x24, rfl, by simp only [Act.put, List.setIfInBounds_toArray, List.set_cons_zero, List.set_cons_succ, cond_true, cond_false, Bool.cond_self], ?_, ?_, ?_, ?_, ?_, ?_, ?_, ?_, ?_, ?_, ?_, ?_⟩
      · exact fb0
      · exact fb1
      · exact fb2
      · exact fb3
      · exact fb4
      · exact fB
      · exact fL
      · exact f23
      · exact f24
      · exact d23_24
      · exact s23
      · exact s24
    · have ge16 : gg16 = false := hi2
      have ge13 : gg13 = true := inv_dep ho hall 13 (by kernel_rfl)
      have ge15 : gg15 = true := inv_dep ho hall 15 (by kernel_rfl)
      clear hall hi1 hi2
      subst ge16 ge13 ge15
      have ho2 := ho
      simp only [List.getElem?_toArray, List.getElem?_cons_zero, List.getElem?_cons_succ] at ho2
      have ho3 := Option.some.inj ho2; clear ho2; subst ho3
      obtain ⟨ba0, bb0⟩ := fb0.read; have bl0 := fb0.lt
      obtain ⟨ba1, bb1⟩ := fb1.read; have bl1 := fb1.lt
      obtain ⟨ba2, bb2⟩ := fb2.read; have bl2 := fb2.lt
      obtain ⟨ba3, bb3⟩ := fb3.read; have bl3 := fb3.lt
      obtain ⟨ba4, bb4⟩ := fb4.read; have bl4 := fb4.lt
      simp only [Act.put, List.setIfInBounds_toArray, List.set_cons_zero, List.set_cons_succ]
      simp only [cond_true, cond_false]
      refine inv_op ho (by kernel_rfl) (fun K hK => ?_)
      clear ho
      go_simp
      go_at_call 39; (with_reducible refine (HO3.out _ _ (by rw [ba2]; simp)).mono ?_); rintro e w8 ⟨rfl, hb⟩
      refine hK.out _ _ ?_
      unfold MeeI0
      refine ⟨gg0, gg1, gg2, gg3, gg4, gg5, gg6, gg7, gg8, gg9, gg10, gg11, gg12, true, gg14, true, true, gg17, gg18, gg19, gg20, gg21, gg22, gg23, gg24, gg25, gg26, gg27, x23, x24, rfl, by simp only [Act.put, List.setIfInBounds_toArray, List.set_cons_zero, List.set_cons_succ, cond_true, cond_false, Bool.cond_self], ?_, ?_, ?_, ?_, ?_, ?_, ?_, ?_, ?_, ?_, ?_, ?_⟩
      · exact Blk.later hb fb0
      · exact Blk.later hb fb1
      · exact Blk.later hb fb2
      · exact Blk.later hb fb3
      · exact Blk.later hb fb4
      · exact belowThru fB hb
      · have := hb.size; omega
      · intro h; obtain ⟨p, q⟩ := f23 h; exact ⟨Blk.later hb p, q⟩
      · intro h; obtain ⟨p, q⟩ := f24 h; exact ⟨Blk.later hb p, q⟩
      · exact d23_24
      · exact s23
      · exact s24
    · have ge17 : gg17 = false := hi2
      have ge12 : gg12 = true := inv_dep ho hall 12 (by kernel_rfl)
      have ge16 : gg16 = true := inv_dep ho hall 16 (by kernel_rfl)
      clear hall hi1 hi2
      subst ge17 ge12 ge16
      have ho2 := ho
      simp only [List.getElem?_toArray, List.getElem?_cons_zero, List.getElem?_cons_succ] at ho2
      have ho3 := Option.some.inj ho2; clear ho2; subst ho3
      obtain ⟨ba0, bb0⟩ := fb0.read; have bl0 := fb0.lt
      obtain ⟨ba1, bb1⟩ := fb1.read; have bl1 := fb1.lt
      obtain ⟨ba2, bb2⟩ := fb2.read; have bl2 := fb2.lt
      obtain ⟨ba3, bb3⟩ := fb3.read; have bl3 := fb3.lt
      obtain ⟨ba4, bb4⟩ := fb4.read; have bl4 := fb4.lt
      simp only [Act.put, List.setIfInBounds_toArray, List.set_cons_zero, List.set_cons_succ]
      simp only [cond_true, cond_false]
      refine inv_op ho (by kernel_rfl) (fun K hK => ?_)
      clear ho
      go_simp
      refine hK.out _ _ ?_
      unfold MeeI0
      refine ⟨gg0, gg1, gg2, gg3, gg4, gg5, gg6, gg7, gg8, gg9, gg10, gg11, true, gg13, gg14, gg15, true, true, gg18, gg19, gg20, gg21, gg22, gg23, gg24, gg25, gg26, gg27, x23, x24, rfl, by simp only [Act.put, List.setIfInBounds_toArray, List.set_cons_zero, List.set_cons_succ, cond_true, cond_false, Bool.cond_self], ?_, ?_, ?_, ?_, ?_, ?_, ?_, ?_, ?_, ?_, ?_, ?_⟩
      · exact fb0
      · exact fb1
      · exact fb2
      · exact fb3
      · exact fb4
      · exact fB
      · exact fL
      · exact f23
      · exact f24
      · exact d23_24
      · exact s23
      · exact s24
    · have ge18 : gg18 = false := hi2
      have ge8 : gg8 = true := inv_dep ho hall 8 (by kernel_rfl)
      have ge17 : gg17 = true := inv_dep ho hall 17 (by kernel_rfl)
      clear hall hi1 hi2
      subst ge18 ge8 ge17
      have ho2 := ho
      simp only [List.getElem?_toArray, List.getElem?_cons_zero, List.getElem?_cons_succ] at ho2
      have ho3 := Option.some.inj ho2; clear ho2; subst ho3
      obtain ⟨ba0, bb0⟩ := fb0.read; have bl0 := fb0.lt
      obtain ⟨ba1, bb1⟩ := fb1.read; have bl1 := fb1.lt
      obtain ⟨ba2, bb2⟩ := fb2.read; have bl2 := fb2.lt
      obtain ⟨ba3, bb3⟩ := fb3.read; have bl3 := fb3.lt
      obtain ⟨ba4, bb4⟩ := fb4.read; have bl4 := fb4.lt
      simp only [Act.put, List.setIfInBounds_toArray, List.set_cons_zero, List.set_cons_succ]
      simp only [cond_true, cond_false]
      refine inv_op ho (by kernel_rfl) (fun K hK => ?_)
      clear ho
      go_simp
      go_at_call 17; (with_reducible refine (HB.out _).mono ?_); rintro e w8 ⟨rfl, hb⟩
      refine hK.out _ _ ?_
      unfold MeeI0
      refine ⟨gg0, gg1, gg2, gg3, gg4, gg5, gg6, gg7, true, gg9, gg10, gg11, gg12, gg13, gg14, gg15, gg16, true, true, gg19, gg20, gg21, gg22, gg23, gg24, gg25, gg26, gg27, x23, x24, rfl, by simp only [Act.put, List.setIfInBounds_toArray, List.set_cons_zero, List.set_cons_succ, cond_true, cond_false, Bool.cond_self], ?_, ?_, ?_, ?_, ?_, ?_, ?_, ?_, ?_, ?_, ?_, ?_⟩
      · exact Blk.later hb fb0
      · exact Blk.later hb fb1
      · exact Blk.later hb fb2
      · exact Blk.later hb fb3
      · exact Blk.later hb fb4
      · exact belowThru fB hb
      · have := hb.size; omega
      · intro h; obtain ⟨p, q⟩ := f23 h; exact ⟨Blk.later hb p, q⟩
      · intro h; obtain ⟨p, q⟩ := f24 h; exact ⟨Blk.later hb p, q⟩
      · exact d23_24
      · exact s23
      · exact s24
    · have ge19 : gg19 = false := hi2
      have ge18 : gg18 = true := inv_dep ho hall 18 (by kernel_rfl)
      clear hall hi1 hi2
      subst ge19 ge18
      have ho2 := ho
      simp only [List.getElem?_toArray, List.getElem?_cons_zero, List.getElem?_cons_succ] at ho2
      have ho3 := Option.some.inj ho2; clear ho2; subst ho3
      obtain ⟨ba0, bb0⟩ := fb0.read; have bl0 := fb0.lt
      obtain ⟨ba1, bb1⟩ := fb1.read; have bl1 := fb1.lt
      obtain ⟨ba2, bb2⟩ := fb2.read; have bl2 := fb2.lt
      obtain ⟨ba3, bb3⟩ := fb3.read; have bl3 := fb3.lt
      obtain ⟨ba4, bb4⟩ := fb4.read; have bl4 := fb4.lt
      simp only [Act.put, List.setIfInBounds_toArray, List.set_cons_zero, List.set_cons_succ]
      simp only [cond_true, cond_false]
      refine inv_op ho (by kernel_rfl) (fun K hK => ?_)
      clear ho
      go_simp
      refine hK.out _ _ ?_
      unfold MeeI0
      refine ⟨gg0, gg1, gg2, gg3, gg4, gg5, gg6, gg7, gg8, gg9, gg10, gg11, gg12, gg13, gg14, gg15, gg16, gg17, true, true, gg20, gg21, gg22, gg23, gg24, gg25, gg26, gg27, x23, x24, rfl, by simp only [Act.put, List.setIfInBounds_toArray, List.set_cons_zero, List.set_cons_succ, cond_true, cond_false, Bool.cond_self], ?_, ?_, ?_, ?_, ?_, ?_, ?_, ?_, ?_, ?_, ?_, ?_⟩
      · exact fb0
      · exact fb1
      · exact fb2
      · exact fb3
      · exact fb4
      · exact fB
      · exact fL
      · exact f23
      · exact f24
      · exact d23_24
      · exact s23
      · exact s24
    · have ge20 : gg20 = false := hi2
      have ge19 : gg19 = true := inv_dep ho hall 19 (by kernel_rfl)
      clear hall hi1 hi2
      subst ge20 ge19
      have ho2 := ho
      simp only [List.getElem?_toArray, List.getElem?_cons_zero, List.getElem?_cons_succ] at ho2
      have ho3 := Option.some.inj ho2; clear ho2; subst ho3
      obtain ⟨ba0, bb0⟩ := fb0.read; have bl0 := fb0.lt
      obtain ⟨ba1, bb1⟩ := fb1.read; have bl1 := fb1.lt
      obtain ⟨ba2, bb2⟩ := fb2.read; have bl2 := fb2.lt
      obtain ⟨ba3, bb3⟩ := fb3.read; have bl3 := fb3.lt
      obtain ⟨ba4, bb4⟩ := fb4.read; have bl4 := fb4.lt
      simp only [Act.put, List.setIfInBounds_toArray, List.set_cons_zero, List.set_cons_succ]
      simp only [cond_true, cond_false]
      refine inv_op ho (by kernel_rfl) (fun K hK => ?_)
      clear ho
      go_simp
      refine hK.out _ _ ?_
      unfold MeeI0
      refine ⟨gg0, gg1, gg2, gg3, gg4, gg5, gg6, gg7, gg8, gg9, gg10, gg11, gg12, gg13, gg14, gg15, gg16, gg17, gg18, true, true, gg21, gg22, gg23, gg24, gg25, gg26, gg27, x23, x24, rfl, by simp only [Act.put, List.setIfInBounds_toArray, List.set_cons_zero, List.set_cons_succ, cond_true, cond_false, Bool.cond_self], ?_, ?_, ?_, ?_, ?_, ?_, ?_, ?_, ?_, ?_, ?_, ?_⟩
      · exact fb0
      · exact fb1
      · exact fb2
      · exact fb3
      · exact fb4
      · exact fB
      · exact fL
      · exact f23
      · exact f24
      · exact d23_24
      · exact s23
      · exact s24
    · have ge21 : gg21 = false := hi2
      have ge19 : gg19 = true := inv_dep ho hall 19 (by kernel_rfl)
      clear hall hi1 hi2
      subst ge21 ge19
      have ho2 := ho
      simp only [List.getElem?_toArray, List.getElem?_cons_zero, List.getElem?_cons_succ] at ho2
      have ho3 := Option.some.inj ho2; clear ho2; subst ho3
      obtain ⟨ba0, bb0⟩ := fb0.read; have bl0 := fb0.lt
      obtain ⟨ba1, bb1⟩ := fb1.read; have bl1 := fb1.lt
      obtain ⟨ba2, bb2⟩ := fb2.read; have bl2 := fb2.lt
      obtain ⟨ba3, bb3⟩ := fb3.read; have bl3 := fb3.lt
      obtain ⟨ba4, bb4⟩ := fb4.read; have bl4 := fb4.lt
      simp only [Act.put, List.setIfInBounds_toArray, List.set_cons_zero, List.set_cons_succ]
      simp only [cond_true, cond_false]
      refine inv_op ho (by kernel_rfl) (fun K hK => ?_)
      clear ho
      go_simp
      refine hK.out _ _ ?_
      unfold MeeI0
      refine ⟨gg0, gg1, gg2, gg3, gg4, gg5, gg6, gg7, gg8, gg9, gg10, gg11, gg12, gg13, gg14, gg15, gg16, gg17, gg18, true, gg20, true, gg22, gg23, gg24, gg25, gg26, gg27, x23, x24, rfl, by simp only [Act.put, List.setIfInBounds_toArray, List.set_cons_zero, List.set_cons_succ, cond_true, cond_false, Bool.cond_self], ?_, ?_, ?_, ?_, ?_, ?_, ?_, ?_, ?_, ?_, ?_, ?_⟩
      · exact fb0
      · exact fb1
      · exact fb2
      · exact fb3
      · exact fb4
      · exact fB
      · exact fL
      · exact f23
      · exact f24
      · exact d23_24
      · exact s23
      · exact s24
    · have ge22 : gg22 = false := hi2
      have ge19 : gg19 = true := inv_dep ho hall 19 (by kernel_rfl)
      clear hall hi1 hi2
      subst ge22 ge19
      have ho2 := ho
      simp only [List.getElem?_toArray, List.getElem?_cons_zero, List.getElem?_cons_succ] at ho2
      have ho3 := Option.some.inj ho2; clear ho2; subst ho3
      obtain ⟨ba0, bb0⟩ := fb0.read; have bl0 := fb0.lt
      obtain ⟨ba1, bb1⟩ := fb1.read; have bl1 := fb1.lt
      obtain ⟨ba2, bb2⟩ := fb2.read; have bl2 := fb2.lt
      obtain ⟨ba3, bb3⟩ := fb3.read; have bl3 := fb3.lt
      obtain ⟨ba4, bb4⟩ := fb4.read; have bl4 := fb4.lt
      simp only [Act.put, List.setIfInBounds_toArray, List.set_cons_zero, List.set_cons_succ]
      simp only [cond_true, cond_false]
      refine inv_op ho (by kernel_rfl) (fun K hK => ?_)
      clear ho
      go_simp
      refine hK.out _ _ ?_
      unfold MeeI0
      refine ⟨gg0, gg1, gg2, gg3, gg4, gg5, gg6, gg7, gg8, gg9, gg10, gg11, gg12, gg13, gg14, gg15, gg16, gg17, gg18, true, gg20, gg21, true, gg23, gg24, gg25, gg26, gg27, x23, x24, rfl, by simp only [Act.put, List.setIfInBounds_toArray, List.set_cons_zero, List.set_cons_succ, cond_true, cond_false, Bool.cond_self], ?_, ?_, ?_, ?_, ?_, ?_, ?_, ?_, ?_, ?_, ?_, ?_⟩
      · exact fb0
      · exact fb1
      · exact fb2
      · exact fb3
      · exact fb4
      · exact fB
      · exact fL
      · exact f23
      · exact f24
      · exact d23_24
      · exact s23
      · exact s24
    · have ge23 : gg23 = false := hi2
      clear hall hi1 hi2
      subst ge23
      have ho2 := ho
      simp only [List.getElem?_toArray, List.getElem?_cons_zero, List.getElem?_cons_succ] at ho2
      have ho3 := Option.some.inj ho2; clear ho2; subst ho3
      obtain ⟨ba0, bb0⟩ := fb0.read; have bl0 := fb0.lt
      obtain ⟨ba1, bb1⟩ := fb1.read; have bl1 := fb1.lt
      obtain ⟨ba2, bb2⟩ := fb2.read; have bl2 := fb2.lt
      obtain ⟨ba3, bb3⟩ := fb3.read; have bl3 := fb3.lt
      obtain ⟨ba4, bb4⟩ := fb4.read; have bl4 := fb4.lt
      obtain rfl : gg25 = false := by cases gg25; rfl; exact Bool.noConfusion (s23 rfl)
      simp only [Act.put, List.setIfInBounds_toArray, List.set_cons_zero, List.set_cons_succ]
      simp only [cond_true, cond_false]
      refine inv_op ho (by kernel_rfl) (fun K hK => ?_)
      clear ho
      go_simp
      refine hK.out _ _ ?_
      unfold MeeI0
      refine ⟨gg0, gg1, gg2, gg3, gg4, gg5, gg6, gg7, gg8, gg9, gg10, gg11, gg12, gg13, gg14, gg15, gg16, gg17, gg18, gg19, gg20, gg21, gg22, true, gg24, false, gg26, gg27, w9.heap.size, x24, rfl, by simp only [Act.put, List.setIfInBounds_toArray, List.set_cons_zero, List.set_cons_succ, cond_true, cond_false, Bool.cond_self], ?_, ?_, ?_, ?_, ?_, ?_, ?_, ?_, ?_, ?_, ?_, ?_⟩
      · exact fb0.alloc
      · exact fb1.alloc
      · exact fb2.alloc
      · exact fb3.alloc
      · exact fb4.alloc
      · exact belowAlloc fB
      · simp only [World.size_alloc]; omega
      · intro _; exact ⟨Blk.new rfl, fL⟩
      · intro h; obtain ⟨p, q⟩ := f24 h; exact ⟨p.alloc, q⟩
      · intro _ h; have := (f24 h).1.lt; omega
      · intro _; rfl
      · exact s24
    · have ge24 : gg24 = false := hi2
      clear hall hi1 hi2
      subst ge24
      have ho2 := ho
      simp only [List.getElem?_toArray, List.getElem?_cons_zero, List.getElem?_cons_succ] at ho2
      have ho3 := Option.some.inj ho2; clear ho2; subst ho3
      obtain ⟨ba0, bb0⟩ := fb0.read; have bl0 := fb0.lt
      obtain ⟨ba1, bb1⟩ := fb1.read; have bl1 := fb1.lt
      obtain ⟨ba2, bb2⟩ := fb2.read; have bl2 := fb2.lt
      obtain ⟨ba3, bb3⟩ := fb3.read; have bl3 := fb3.lt
      obtain ⟨ba4, bb4⟩ := fb4.read; have bl4 := fb4.lt
      obtain rfl : gg26 = false := by cases gg26; rfl; exact Bool.noConfusion (s24 rfl)
      simp only [Act.put, List.setIfInBounds_toArray, List.set_cons_zero, List.set_cons_succ]
      simp only [cond_true, cond_false]
      refine inv_op ho (by kernel_rfl) (fun K hK => ?_)
      clear ho
      go_simp
      refine hK.out _ _ ?_
      unfold MeeI0
      refine ⟨gg0, gg1, gg2, gg3, gg4, gg5, gg6, gg7, gg8, gg9, gg10, gg11, gg12, gg13, gg14, gg15, gg16, gg17, gg18, gg19, gg20, gg21, gg22, gg23, true, gg25, false, gg27, x23, w9.heap.size, rfl, by simp only [Act.put, List.setIfInBounds_toArray, List.set_cons_zero, List.set_cons_succ, cond_true, cond_false, Bool.cond_self], ?_, ?_, ?_, ?_, ?_, ?_, ?_, ?_, ?_, ?_, ?_, ?_⟩
      · exact fb0.alloc
      · exact fb1.alloc
      · exact fb2.alloc
      · exact fb3.alloc
      · exact fb4.alloc
      · exact belowAlloc fB
      · simp only [World.size_alloc]; omega
      · intro h; obtain ⟨p, q⟩ := f23 h; exact ⟨p.alloc, q⟩
      · intro _; exact ⟨Blk.new rfl, fL⟩
      · intro h _; have := (f23 h).1.lt; omega
      · exact s23
      · intro _; rfl
    · have ge25 : gg25 = false := hi2
      have ge20 : gg20 = true := inv_dep ho hall 20 (by kernel_rfl)
      have ge23 : gg23 = true := inv_dep ho hall 23 (by kernel_rfl)
      clear hall hi1 hi2
      subst ge25 ge20 ge23
      have ho2 := ho
      simp only [List.getElem?_toArray, List.getElem?_cons_zero, List.getElem?_cons_succ] at ho2
      have ho3 := Option.some.inj ho2; clear ho2; subst ho3
      obtain ⟨p23, q23⟩ := f23 rfl
      obtain ⟨ra23, rb23⟩ := p23.read
      have rl23 := p23.lt
      obtain ⟨ba0, bb0⟩ := fb0.read; have bl0 := fb0.lt
      obtain ⟨ba1, bb1⟩ := fb1.read; have bl1 := fb1.lt
      obtain ⟨ba2, bb2⟩ := fb2.read; have bl2 := fb2.lt
      obtain ⟨ba3, bb3⟩ := fb3.read; have bl3 := fb3.lt
      obtain ⟨ba4, bb4⟩ := fb4.read; have bl4 := fb4.lt
      have rl23 := p23.lt
      skip
      simp only [Act.put, List.setIfInBounds_toArray, List.set_cons_zero, List.set_cons_succ]
      simp only [cond_true, cond_false]
      refine inv_op ho (by kernel_rfl) (fun K hK => ?_)
      clear ho
      go_simp
      refine hK.out _ _ ?_
      unfold MeeI0
      refine ⟨gg0, gg1, gg2, gg3, gg4, gg5, gg6, gg7, gg8, gg9, gg10, gg11, gg12, gg13, gg14, gg15, gg16, gg17, gg18, gg19, true, gg21, gg22, true, gg24, true, gg26, gg27, x23, x24, rfl, by simp only [Act.put, List.setIfInBounds_toArray, List.set_cons_zero, List.set_cons_succ, cond_true, cond_false, Bool.cond_self], ?_, ?_, ?_, ?_, ?_, ?_, ?_, ?_, ?_, ?_, ?_, ?_⟩
      · (repeat' (first | (with_reducible assumption) | ((with_reducible refine Blk.new ?_); first | rfl | (simp; done)) | (with_reducible refine Blk.later (by assumption) ?_) | (with_reducible refine Blk.alloc ?_) | (with_reducible refine Blk.drewN ?_) | (with_reducible refine Blk.drew ?_) | (with_reducible refine Blk.other ?_ (by first | omega | (simp; done) | (simp; omega)))))
      · (repeat' (first | (with_reducible assumption) | ((with_reducible refine Blk.new ?_); first | rfl | (simp; done)) | (with_reducible refine Blk.later (by assumption) ?_) | (with_reducible refine Blk.alloc ?_) | (with_reducible refine Blk.drewN ?_) | (with_reducible refine Blk.drew ?_) | (with_reducible refine Blk.other ?_ (by first | omega | (simp; done) | (simp; omega)))))
      · (repeat' (first | (with_reducible assumption) | ((with_reducible refine Blk.new ?_); first | rfl | (simp; done)) | (with_reducible refine Blk.later (by assumption) ?_) | (with_reducible refine Blk.alloc ?_) | (with_reducible refine Blk.drewN ?_) | (with_reducible refine Blk.drew ?_) | (with_reducible refine Blk.other ?_ (by first | omega | (simp; done) | (simp; omega)))))
      · (repeat' (first | (with_reducible assumption) | ((with_reducible refine Blk.new ?_); first | rfl | (simp; done)) | (with_reducible refine Blk.later (by assumption) ?_) | (with_reducible refine Blk.alloc ?_) | (with_reducible refine Blk.drewN ?_) | (with_reducible refine Blk.drew ?_) | (with_reducible refine Blk.other ?_ (by first | omega | (simp; done) | (simp; omega)))))
      · (repeat' (first | (with_reducible assumption) | ((with_reducible refine Blk.new ?_); first | rfl | (simp; done)) | (with_reducible refine Blk.later (by assumption) ?_) | (with_reducible refine Blk.alloc ?_) | (with_reducible refine Blk.drewN ?_) | (with_reducible refine Blk.drew ?_) | (with_reducible refine Blk.other ?_ (by first | omega | (simp; done) | (simp; omega)))))
      · (repeat' (first | (with_reducible exact Below.refl _ _) | (with_reducible assumption) | (with_reducible refine belowThru ?_ (by assumption)) | (with_reducible refine belowAlloc ?_) | (with_reducible refine Below.setCell ?_ (by first | omega | (simp; done) | (simp; omega)) _) | (with_reducible refine Below.drew ?_) | (with_reducible refine below_drewN ?_ _)))
      · first | exact fL | (simp; omega)
      · intro _; exact ⟨by exact Blk.set (Blk.set (Blk.set (Blk.set (p23)))), q23⟩
      · intro h; obtain ⟨p, q⟩ := f24 h; have hne := d23_24 rfl h; exact ⟨by (repeat' (first | (with_reducible assumption) | ((with_reducible refine Blk.new ?_); first | rfl | (simp; done)) | (with_reducible refine Blk.later (by assumption) ?_) | (with_reducible refine Blk.alloc ?_) | (with_reducible refine Blk.drewN ?_) | (with_reducible refine Blk.drew ?_) | (with_reducible refine Blk.other ?_ (by first | omega | (simp; done) | (simp; omega))))), q⟩
      · exact d23_24
      · intro _; rfl
      · exact s24
    · have ge26 : gg26 = false := hi2
      have ge21 : gg21 = true := inv_dep ho hall 21 (by kernel_rfl)
      have ge24 : gg24 = true := inv_dep ho hall 24 (by kernel_rfl)
      clear hall hi1 hi2
      subst ge26 ge21 ge24
      have ho2 := ho
      simp only [List.getElem?_toArray, List.getElem?_cons_zero, List.getElem?_cons_succ] at ho2
      have ho3 := Option.some.inj ho2; clear ho2; subst ho3
      obtain ⟨p24, q24⟩ := f24 rfl
      obtain ⟨ra24, rb24⟩ := p24.read
      have rl24 := p24.lt
      obtain ⟨ba0, bb0⟩ := fb0.read; have bl0 := fb0.lt
      obtain ⟨ba1, bb1⟩ := fb1.read; have bl1 := fb1.lt
      obtain ⟨ba2, bb2⟩ := fb2.read; have bl2 := fb2.lt
      obtain ⟨ba3, bb3⟩ := fb3.read; have bl3 := fb3.lt
      obtain ⟨ba4, bb4⟩ := fb4.read; have bl4 := fb4.lt
      have rl24 := p24.lt
      skip
      simp only [Act.put, List.setIfInBounds_toArray, List.set_cons_zero, List.set_cons_succ]
      simp only [cond_true, cond_false]
      refine inv_op ho (by kernel_rfl) (fun K hK => ?_)
      clear ho
      go_simp
      refine hK.out _ _ ?_
      unfold MeeI0
      refine ⟨gg0, gg1, gg2, gg3, gg4, gg5, gg6, gg7, gg8, gg9, gg10, gg11, gg12, gg13, gg14, gg15, gg16, gg17, gg18, gg19, gg20, true, gg22, gg23, true, gg25, true, gg27, x23, x24, rfl, by simp only [Act.put, List.setIfInBounds_toArray, List.set_cons_zero, List.set_cons_succ, cond_true, cond_false, Bool.cond_self], ?_, ?_, ?_, ?_, ?_, ?_, ?_, ?_, ?_, ?_, ?_, ?_⟩
      · (repeat' (first | (with_reducible assumption) | ((with_reducible refine Blk.new ?_); first | rfl | (simp; done)) | (with_reducible refine Blk.later (by assumption) ?_) | (with_reducible refine Blk.alloc ?_) | (with_reducible refine Blk.drewN ?_) | (with_reducible refine Blk.drew ?_) | (with_reducible refine Blk.other ?_ (by first | omega | (simp; done) | (simp; omega)))))
      · (repeat' (first | (with_reducible assumption) | ((with_reducible refine Blk.new ?_); first | rfl | (simp; done)) | (with_reducible refine Blk.later (by assumption) ?_) | (with_reducible refine Blk.alloc ?_) | (with_reducible refine Blk.drewN ?_) | (with_reducible refine Blk.drew ?_) | (with_reducible refine Blk.other ?_ (by first | omega | (simp; done) | (simp; omega)))))
      · (repeat' (first | (with_reducible assumption) | ((with_reducible refine Blk.new ?_); first | rfl | (simp; done)) | (with_reducible refine Blk.later (by assumption) ?_) | (with_reducible refine Blk.alloc ?_) | (with_reducible refine Blk.drewN ?_) | (with_reducible refine Blk.drew ?_) | (with_reducible refine Blk.other ?_ (by first | omega | (simp; done) | (simp; omega)))))
      · (repeat' (first | (with_reducible assumption) | ((with_reducible refine Blk.new ?_); first | rfl | (simp; done)) | (with_reducible refine Blk.later (by assumption) ?_) | (with_reducible refine Blk.alloc ?_) | (with_reducible refine Blk.drewN ?_) | (with_reducible refine Blk.drew ?_) | (with_reducible refine Blk.other ?_ (by first | omega | (simp; done) | (simp; omega)))))
      · (repeat' (first | (with_reducible assumption) | ((with_reducible refine Blk.new ?_); first | rfl | (simp; done)) | (with_reducible refine Blk.later (by assumption) ?_) | (with_reducible refine Blk.alloc ?_) | (with_reducible refine Blk.drewN ?_) | (with_reducible refine Blk.drew ?_) | (with_reducible refine Blk.other ?_ (by first | omega | (simp; done) | (simp; omega)))))
      · (repeat' (first | (with_reducible exact Below.refl _ _) | (with_reducible assumption) | (with_reducible refine belowThru ?_ (by assumption)) | (with_reducible refine belowAlloc ?_) | (with_reducible refine Below.setCell ?_ (by first | omega | (simp; done) | (simp; omega)) _) | (with_reducible refine Below.drew ?_) | (with_reducible refine below_drewN ?_ _)))
      · first | exact fL | (simp; omega)
      · intro h; obtain ⟨p, q⟩ := f23 h; have hne := d23_24 h rfl; exact ⟨by (repeat' (first | (with_reducible assumption) | ((with_reducible refine Blk.new ?_); first | rfl | (simp; done)) | (with_reducible refine Blk.later (by assumption) ?_) | (with_reducible refine Blk.alloc ?_) | (with_reducible refine Blk.drewN ?_) | (with_reducible refine Blk.drew ?_) | (with_reducible refine Blk.other ?_ (by first | omega | (simp; done) | (simp; omega))))), q⟩
      · intro _; exact ⟨by exact Blk.set (Blk.set (Blk.set (Blk.set (p24)))), q24⟩
      · exact d23_24
      · exact s23
      · intro _; rfl
    · have ge27 : gg27 = false := hi2
      have ge22 : gg22 = true := inv_dep ho hall 22 (by kernel_rfl)
      clear hall hi1 hi2
      subst ge27 ge22
      have ho2 := ho
      simp only [List.getElem?_toArray, List.getElem?_cons_zero, List.getElem?_cons_succ] at ho2
      have ho3 := Option.some.inj ho2; clear ho2; subst ho3
      obtain ⟨ba0, bb0⟩ := fb0.read; have bl0 := fb0.lt
      obtain ⟨ba1, bb1⟩ := fb1.read; have bl1 := fb1.lt
      obtain ⟨ba2, bb2⟩ := fb2.read; have bl2 := fb2.lt
      obtain ⟨ba3, bb3⟩ := fb3.read; have bl3 := fb3.lt
      obtain ⟨ba4, bb4⟩ := fb4.read; have bl4 := fb4.lt
      simp only [Act.put, List.setIfInBounds_toArray, List.set_cons_zero, List.set_cons_succ]
      simp only [cond_true, cond_false]
      refine inv_op ho (by kernel_rfl) (fun K hK => ?_)
      clear ho
      go_simp
      refine hK.out _ _ ?_
      unfold MeeI0
      refine ⟨gg0, gg1, gg2, gg3, gg4, gg5, gg6, gg7, gg8, gg9, gg10, gg11, gg12, gg13, gg14, gg15, gg16, gg17, gg18, gg19, gg20, gg21, true, gg23, gg24, gg25, gg26, true, x23, x24, rfl, by simp only [Act.put, List.setIfInBounds_toArray, List.set_cons_zero, List.set_cons_succ, cond_true, cond_false, Bool.cond_self], ?_, ?_, ?_, ?_, ?_, ?_, ?_, ?_, ?_, ?_, ?_, ?_⟩
      · exact fb0
      · exact fb1
      · exact fb2
      · exact fb3
      · exact fb4
      · exact fB
      · exact fL
      · exact f23
      · exact f24
      · exact d23_24
      · exact s23
      · exact s24
    · exfalso; simp at hi1; omega
  case hfin =>
    intro a w9 hI
    obtain ⟨gg0, gg1, gg2, gg3, gg4, gg5, gg6, gg7, gg8, gg9, gg10, gg11, gg12, gg13, gg14, gg15, gg16, gg17, gg18, gg19, gg20, gg21, gg22, gg23, gg24, gg25, gg26, gg27, x23, x24, hL, rfl, fb0, fb1, fb2, fb3, fb4, fB, fL, f23, f24, d23_24, s23, s24⟩ := hI
    have hL2 : #[true, true, true, true, true, true, true, true, true, true, true, true, true, true, true, true, true, true, true, true, true, true, true, true, true, true, true, true] = #[gg0, gg1, gg2, gg3, gg4, gg5, gg6, gg7, gg8, gg9, gg10, gg11, gg12, gg13, gg14, gg15, gg16, gg17, gg18, gg19, gg20, gg21, gg22, gg23, gg24, gg25, gg26, gg27] := hL
    cases hL2
    obtain ⟨p23, q23⟩ := f23 rfl
    obtain ⟨p24, q24⟩ := f24 rfl
    have n23_24 := d23_24 rfl rfl
    clear f23 f24 d23_24 s23 s24
    simp only [Act.put, List.setIfInBounds_toArray, List.set_cons_zero, List.set_cons_succ]
    simp only [cond_true]
    have PU := p23; have PV := p24
    obtain ⟨a12, b12⟩ := PU.read; obtain ⟨a13, b13⟩ := PV.read; obtain ⟨a3, b3⟩ := fb3.read; obtain ⟨a4, b4⟩ := fb4.read
    go_wp2_with (first
      | (go_at_call 40; (with_reducible refine (HI1.out _).mono ?_); rintro e w7 ⟨rfl, hb⟩; (have PU := Blk.later hb PU); (have PV := Blk.later hb PV); (have fb3 := Blk.later hb fb3); (have fb4 := Blk.later hb fb4); obtain ⟨a12, b12⟩ := PU.read; obtain ⟨a13, b13⟩ := PV.read; obtain ⟨a3, b3⟩ := fb3.read; obtain ⟨a4, b4⟩ := fb4.read; (have fB := belowThru fB hb); clear HI1)
      | (go_at_call 40; (with_reducible refine (HI2.out _).mono ?_); rintro e w6 ⟨rfl, hb⟩; (have fB := belowThru fB hb); clear HI2))
    go_ret
    exact ⟨rfl, belowThru hBw (by (repeat' (first | (with_reducible exact Below.refl _ _) | (with_reducible assumption) | (with_reducible refine belowThru ?_ (by assumption)) | (with_reducible refine belowAlloc ?_) | (with_reducible refine Below.setCell ?_ (by first | omega | (simp; done) | (simp; omega)) _) | (with_reducible refine Below.drew ?_) | (with_reducible refine below_drewN ?_ _))))⟩
end Go.Proofs.Ytdimmnoflenfhaa
