/-
  The document's own answers, layer 1: products and quotients of fractions.
-/
import Derived.Test.YticclcimelibdaaRef4
import Derived.Test.YticclcimelibdaaInv
import Derived.Deep.DeepCutAuto
import Derived.Deep.RegionHeld3
namespace Go.Proofs.Yticclcimelibdaa
open Go.RowKit

/-- What holds of the region whichever operations have come up. -/
def ROverI (a b c d s t y m1 m2 m3 m4 X1 X0 Y1 Y0 A B : Int) (ok : Bool) (w : World) (i6 i7 i8 i9 i10 i11 i12 i13 i14 i15 i16 i17 i18 i19 i20 i21 i22 i23 i24 i25 i26 i27 i28 i29 i5 : Value) (b9 : Act) (L9 : Array Bool) (a9 : Act) (w9 : World) : Prop :=
  ∃ (gg0 gg1 gg2 gg3 gg4 gg5 gg6 gg7 gg8 gg9 gg10 gg11 gg12 gg13 gg14 gg15 gg16 gg17 gg18 gg19 gg20 gg21 gg22 gg23 gg24 gg25 : Bool), L9 = #[gg0, gg1, gg2, gg3, gg4, gg5, gg6, gg7, gg8, gg9, gg10, gg11, gg12, gg13, gg14, gg15, gg16, gg17, gg18, gg19, gg20, gg21, gg22, gg23, gg24, gg25] ∧ a9 = (((((((((((((((((((((((((b9).put (some 6) (cond gg0 (.pointer (some ⟨w.heap.size, 0, none⟩)) (i6))).put (some 7) (cond gg1 (.int .i64 a) (i7))).put (some 8) (cond gg2 (.int .i64 s) (i8))).put (some 9) (cond gg3 (.pointer (some ⟨(w.heap.size + 1), 0, none⟩)) (i9))).put (some 10) (cond gg4 (.int .i64 c) (i10))).put (some 11) (cond gg5 (.int .i64 t) (i11))).put (some 12) (cond gg6 (.int .i64 y) (i12))).put (some 13) (cond gg7 (.pointer (some ⟨w.heap.size, 0, none⟩)) (i13))).put (some 14) (cond gg8 (.int .i64 a) (i14))).put (some 15) (cond gg9 (.int .u64 m1) (i15))).put (some 16) (cond gg10 (.pointer (some ⟨(w.heap.size + 1), 1, none⟩)) (i16))).put (some 17) (cond gg11 (.int .i64 d) (i17))).put (some 18) (cond gg12 (.int .u64 m2) (i18))).put (some 19) (cond gg13 (.agg #[.int .u64 X1, .int .u64 X0]) (i19))).put (some 20) (cond gg14 (.pointer (some ⟨w.heap.size, 1, none⟩)) (i20))).put (some 21) (cond gg15 (.int .i64 b) (i21))).put (some 22) (cond gg16 (.int .u64 m3) (i22))).put (some 23) (cond gg17 (.pointer (some ⟨(w.heap.size + 1), 0, none⟩)) (i23))).put (some 24) (cond gg18 (.int .i64 c) (i24))).put (some 25) (cond gg19 (.int .u64 m4) (i25))).put (some 26) (cond gg20 (.agg #[.int .u64 Y1, .int .u64 Y0]) (i26))).put (some 27) (cond gg21 (.tuple #[.agg #[.int .i64 A, .int .i64 B], .bool ok]) (i27))).put (some 28) (cond gg22 (.agg #[.int .i64 A, .int .i64 B]) (i28))).put (some 29) (cond gg23 (.bool ok) (i29))).put (some 5) (cond gg25 (.bool ok) (i5)) ∧ Blk w9 w.heap.size #[.int .i64 a, .int .i64 b] 23 ∧ Blk w9 (w.heap.size + 1) #[.int .i64 c, .int .i64 d] 23 ∧ Blk w9 (w.heap.size + 1 + 1) (cond gg24 #[.int .i64 A, .int .i64 B] #[.int .i64 0, .int .i64 0]) 23 ∧ Below w.heap.size w w9 ∧ (w.heap.size + 1 + 1 + 1) ≤ w9.heap.size

set_option maxRecDepth 100000 in
set_option maxHeartbeats 8000000 in
set_option linter.unusedSimpArgs false in
theorem rover_walk (a b c d s t y m1 m2 m3 m4 X1 X0 Y1 Y0 A B : Int) (ok : Bool) (w : World) (hy : IntKind.i64.wrap (s * t) = y)
    (HS1 : Hid (∀ w, Calls Try.prog 135 #[.int .i64 a] w fun e w' => e = .returned (.int .i64 s) ∧ w = w'))
    (HS2 : Hid (∀ w, Calls Try.prog 135 #[.int .i64 c] w fun e w' => e = .returned (.int .i64 t) ∧ w = w'))
    (HM1 : Hid (∀ w, Calls Try.prog 133 #[.int .i64 a] w fun e w' => e = .returned (.int .u64 m1) ∧ w = w'))
    (HM2 : Hid (∀ w, Calls Try.prog 133 #[.int .i64 d] w fun e w' => e = .returned (.int .u64 m2) ∧ w = w'))
    (HM3 : Hid (∀ w, Calls Try.prog 133 #[.int .i64 b] w fun e w' => e = .returned (.int .u64 m3) ∧ w = w'))
    (HM4 : Hid (∀ w, Calls Try.prog 133 #[.int .i64 c] w fun e w' => e = .returned (.int .u64 m4) ∧ w = w'))
    (HX : Hid (∀ w, Calls Try.prog 136 #[.int .u64 m1, .int .u64 m2] w fun e w' => e = .returned (.agg #[.int .u64 X1, .int .u64 X0]) ∧ Below w.heap.size w w'))
    (HY : Hid (∀ w, Calls Try.prog 136 #[.int .u64 m3, .int .u64 m4] w fun e w' => e = .returned (.agg #[.int .u64 Y1, .int .u64 Y0]) ∧ Below w.heap.size w w'))
    (HL : Hid (∀ w, Calls Try.prog 139 #[.int .i64 y, .agg #[.int .u64 X1, .int .u64 X0], .agg #[.int .u64 Y1, .int .u64 Y0]] w fun e w' => e = .returned (.tuple #[.agg #[.int .i64 A, .int .i64 B], .bool ok]) ∧ Below w.heap.size w w')) :
    Calls Try.prog 118 #[.agg #[.int .i64 a, .int .i64 b], .agg #[.int .i64 c, .int .i64 d]] w fun e w' => e = .returned (.tuple #[.agg #[.int .i64 A, .int .i64 B], .bool ok]) ∧ Below w.heap.size w w' := by
  go_enter Try.func118, Try.ntmps118
  go_upto_region 1 with fail
  refine wp_region_inv (ROverI a b c d s t y m1 m2 m3 m4 X1 X0 Y1 Y0 A B ok w ?i6 ?i7 ?i8 ?i9 ?i10 ?i11 ?i12 ?i13 ?i14 ?i15 ?i16 ?i17 ?i18 ?i19 ?i20 ?i21 ?i22 ?i23 ?i24 ?i25 ?i26 ?i27 ?i28 ?i29 ?i5) (by kernel_rfl) (by kernel_rfl) ?hsz ?hst ?hstep ?hfin
  case hst =>
    unfold ROverI
    refine ⟨false, false, false, false, false, false, false, false, false, false, false, false, false, false, false, false, false, false, false, false, false, false, false, false, false, false, rfl, ?_, ?_, ?_, ?_, ?_, ?_⟩
    · first | (simp only [Act.put, List.setIfInBounds_toArray, List.set_cons_zero, List.set_cons_succ, cond_false]; done) | (simp only [Act.put, List.setIfInBounds_toArray, List.set_cons_zero, List.set_cons_succ, cond_false]; rfl)
    all_goals (first | (intro h; cases h; done) | ((repeat' (first | (with_reducible assumption) | ((with_reducible refine Blk.new ?_); first | rfl | (simp; done)) | (with_reducible refine Blk.later (by assumption) ?_) | (with_reducible refine Blk.alloc ?_) | (with_reducible refine Blk.drewN ?_) | (with_reducible refine Blk.drew ?_) | (with_reducible refine Blk.other ?_ (by first | omega | (simp; done) | (simp; omega))))); done) | ((repeat' (first | (with_reducible exact Below.refl _ _) | (with_reducible assumption) | (with_reducible refine belowThru ?_ (by assumption)) | (with_reducible refine belowAlloc ?_) | (with_reducible refine Below.setCell ?_ (by first | omega | (simp; done) | (simp; omega)) _) | (with_reducible refine Below.drew ?_) | (with_reducible refine below_drewN ?_ _))); done) | (simp only [cond_false]; (repeat' (first | (with_reducible assumption) | ((with_reducible refine Blk.new ?_); first | rfl | (simp; done)) | (with_reducible refine Blk.later (by assumption) ?_) | (with_reducible refine Blk.alloc ?_) | (with_reducible refine Blk.drewN ?_) | (with_reducible refine Blk.drew ?_) | (with_reducible refine Blk.other ?_ (by first | omega | (simp; done) | (simp; omega))))); done) | (simp only [World.size_drew]; omega) | (simp only [World.size_drew] at *; omega) | (simp; done) | (simp; omega))
  case hsz =>
    intro L a w9 h
    obtain ⟨gg0, gg1, gg2, gg3, gg4, gg5, gg6, gg7, gg8, gg9, gg10, gg11, gg12, gg13, gg14, gg15, gg16, gg17, gg18, gg19, gg20, gg21, gg22, gg23, gg24, gg25, rfl, -⟩ := h; rfl
  case hstep =>
    intro L a w9 hI i hi
    obtain ⟨gg0, gg1, gg2, gg3, gg4, gg5, gg6, gg7, gg8, gg9, gg10, gg11, gg12, gg13, gg14, gg15, gg16, gg17, gg18, gg19, gg20, gg21, gg22, gg23, gg24, gg25, rfl, rfl, fb0, fb1, fb2, fB, fL⟩ := hI
    obtain ⟨hi1, hi2, o, ho, hall⟩ := inv_mem hi
    clear hi
    rcases i with _ | _ | _ | _ | _ | _ | _ | _ | _ | _ | _ | _ | _ | _ | _ | _ | _ | _ | _ | _ | _ | _ | _ | _ | _ | _ | i
    · have ge0 : gg0 = false := hi2
      clear hall hi1 hi2
      subst ge0
      have ho2 := ho
      simp only [List.getElem?_toArray, List.getElem?_cons_zero, List.getElem?_cons_succ] at ho2
      have ho3 := Option.some.inj ho2; clear ho2; subst ho3
      obtain ⟨ba0, bb0⟩ := fb0.read; have bl0 := fb0.lt
      obtain ⟨ba1, bb1⟩ := fb1.read; have bl1 := fb1.lt
      simp only [Act.put, List.setIfInBounds_toArray, List.set_cons_zero, List.set_cons_succ]
      simp only [cond_true, cond_false]
      refine inv_op ho (by kernel_rfl) (fun K hK => ?_)
      clear ho
      go_simp
      refine hK.out _ _ ?_
      unfold ROverI
      refine ⟨true, gg1, gg2, gg3, gg4, gg5, gg6, gg7, gg8, gg9, gg10, gg11, gg12, gg13, gg14, gg15, gg16, gg17, gg18, gg19, gg20, gg21, gg22, gg23, gg24, gg25, rfl, by simp only [Act.put, List.setIfInBounds_toArray, List.set_cons_zero, List.set_cons_succ, cond_true, cond_false], ?_, ?_, ?_, ?_, ?_⟩
      · exact fb0
      · exact fb1
      · exact fb2
      · exact fB
      · exact fL
    · have ge1 : gg1 = false := hi2
      have ge0 : gg0 = true := inv_dep ho hall 0 (by kernel_rfl)
      clear hall hi1 hi2
      subst ge1 ge0
      have ho2 := ho
      simp only [List.getElem?_toArray, List.getElem?_cons_zero, List.getElem?_cons_succ] at ho2
      have ho3 := Option.some.inj ho2; clear ho2; subst ho3
      obtain ⟨ba0, bb0⟩ := fb0.read; have bl0 := fb0.lt
      obtain ⟨ba1, bb1⟩ := fb1.read; have bl1 := fb1.lt
      simp only [Act.put, List.setIfInBounds_toArray, List.set_cons_zero, List.set_cons_succ]
      simp only [cond_true, cond_false]
      refine inv_op ho (by kernel_rfl) (fun K hK => ?_)
      clear ho
      go_simp
      refine hK.out _ _ ?_
      unfold ROverI
      refine ⟨true, true, gg2, gg3, gg4, gg5, gg6, gg7, gg8, gg9, gg10, gg11, gg12, gg13, gg14, gg15, gg16, gg17, gg18, gg19, gg20, gg21, gg22, gg23, gg24, gg25, rfl, by simp only [Act.put, List.setIfInBounds_toArray, List.set_cons_zero, List.set_cons_succ, cond_true, cond_false], ?_, ?_, ?_, ?_, ?_⟩
      · exact fb0
      · exact fb1
      · exact fb2
      · exact fB
      · exact fL
    · have ge2 : gg2 = false := hi2
      have ge1 : gg1 = true := inv_dep ho hall 1 (by kernel_rfl)
      clear hall hi1 hi2
      subst ge2 ge1
      have ho2 := ho
      simp only [List.getElem?_toArray, List.getElem?_cons_zero, List.getElem?_cons_succ] at ho2
      have ho3 := Option.some.inj ho2; clear ho2; subst ho3
      obtain ⟨ba0, bb0⟩ := fb0.read; have bl0 := fb0.lt
      obtain ⟨ba1, bb1⟩ := fb1.read; have bl1 := fb1.lt
      simp only [Act.put, List.setIfInBounds_toArray, List.set_cons_zero, List.set_cons_succ]
      simp only [cond_true, cond_false]
      refine inv_op ho (by kernel_rfl) (fun K hK => ?_)
      clear ho
      go_simp
      go_at_call 135; (with_reducible refine (HS1.out _).mono ?_); rintro e w1 ⟨rfl, rfl⟩
      refine hK.out _ _ ?_
      unfold ROverI
      refine ⟨gg0, true, true, gg3, gg4, gg5, gg6, gg7, gg8, gg9, gg10, gg11, gg12, gg13, gg14, gg15, gg16, gg17, gg18, gg19, gg20, gg21, gg22, gg23, gg24, gg25, rfl, by simp only [Act.put, List.setIfInBounds_toArray, List.set_cons_zero, List.set_cons_succ, cond_true, cond_false], ?_, ?_, ?_, ?_, ?_⟩
      · exact fb0
      · exact fb1
      · exact fb2
      · exact fB
      · exact fL
    · have ge3 : gg3 = false := hi2
      clear hall hi1 hi2
      subst ge3
      have ho2 := ho
      simp only [List.getElem?_toArray, List.getElem?_cons_zero, List.getElem?_cons_succ] at ho2
      have ho3 := Option.some.inj ho2; clear ho2; subst ho3
      obtain ⟨ba0, bb0⟩ := fb0.read; have bl0 := fb0.lt
      obtain ⟨ba1, bb1⟩ := fb1.read; have bl1 := fb1.lt
      simp only [Act.put, List.setIfInBounds_toArray, List.set_cons_zero, List.set_cons_succ]
      simp only [cond_true, cond_false]
      refine inv_op ho (by kernel_rfl) (fun K hK => ?_)
      clear ho
      go_simp
      refine hK.out _ _ ?_
      unfold ROverI
      refine ⟨gg0, gg1, gg2, true, gg4, gg5, gg6, gg7, gg8, gg9, gg10, gg11, gg12, gg13, gg14, gg15, gg16, gg17, gg18, gg19, gg20, gg21, gg22, gg23, gg24, gg25, rfl, by simp only [Act.put, List.setIfInBounds_toArray, List.set_cons_zero, List.set_cons_succ, cond_true, cond_false], ?_, ?_, ?_, ?_, ?_⟩
      · exact fb0
      · exact fb1
      · exact fb2
      · exact fB
      · exact fL
    · have ge4 : gg4 = false := hi2
      have ge3 : gg3 = true := inv_dep ho hall 3 (by kernel_rfl)
      clear hall hi1 hi2
      subst ge4 ge3
      have ho2 := ho
      simp only [List.getElem?_toArray, List.getElem?_cons_zero, List.getElem?_cons_succ] at ho2
      have ho3 := Option.some.inj ho2; clear ho2; subst ho3
      obtain ⟨ba0, bb0⟩ := fb0.read; have bl0 := fb0.lt
      obtain ⟨ba1, bb1⟩ := fb1.read; have bl1 := fb1.lt
      simp only [Act.put, List.setIfInBounds_toArray, List.set_cons_zero, List.set_cons_succ]
      simp only [cond_true, cond_false]
      refine inv_op ho (by kernel_rfl) (fun K hK => ?_)
      clear ho
      go_simp
      refine hK.out _ _ ?_
      unfold ROverI
      refine ⟨gg0, gg1, gg2, true, true, gg5, gg6, gg7, gg8, gg9, gg10, gg11, gg12, gg13, gg14, gg15, gg16, gg17, gg18, gg19, gg20, gg21, gg22, gg23, gg24, gg25, rfl, by simp only [Act.put, List.setIfInBounds_toArray, List.set_cons_zero, List.set_cons_succ, cond_true, cond_false], ?_, ?_, ?_, ?_, ?_⟩
      · exact fb0
      · exact fb1
      · exact fb2
      · exact fB
      · exact fL
    · have ge5 : gg5 = false := hi2
      have ge4 : gg4 = true := inv_dep ho hall 4 (by kernel_rfl)
      clear hall hi1 hi2
      subst ge5 ge4
      have ho2 := ho
      simp only [List.getElem?_toArray, List.getElem?_cons_zero, List.getElem?_cons_succ] at ho2
      have ho3 := Option.some.inj ho2; clear ho2; subst ho3
      obtain ⟨ba0, bb0⟩ := fb0.read; have bl0 := fb0.lt
      obtain ⟨ba1, bb1⟩ := fb1.read; have bl1 := fb1.lt
      simp only [Act.put, List.setIfInBounds_toArray, List.set_cons_zero, List.set_cons_succ]
      simp only [cond_true, cond_false]
      refine inv_op ho (by kernel_rfl) (fun K hK => ?_)
      clear ho
      go_simp
      go_at_call 135; (with_reducible refine (HS2.out _).mono ?_); rintro e w1 ⟨rfl, rfl⟩
      refine hK.out _ _ ?_
      unfold ROverI
      refine ⟨gg0, gg1, gg2, gg3, true, true, gg6, gg7, gg8, gg9, gg10, gg11, gg12, gg13, gg14, gg15, gg16, gg17, gg18, gg19, gg20, gg21, gg22, gg23, gg24, gg25, rfl, by simp only [Act.put, List.setIfInBounds_toArray, List.set_cons_zero, List.set_cons_succ, cond_true, cond_false], ?_, ?_, ?_, ?_, ?_⟩
      · exact fb0
      · exact fb1
      · exact fb2
      · exact fB
      · exact fL
    · have ge6 : gg6 = false := hi2
      have ge2 : gg2 = true := inv_dep ho hall 2 (by kernel_rfl)
      have ge5 : gg5 = true := inv_dep ho hall 5 (by kernel_rfl)
      clear hall hi1 hi2
      subst ge6 ge2 ge5
      have ho2 := ho
      simp only [List.getElem?_toArray, List.getElem?_cons_zero, List.getElem?_cons_succ] at ho2
      have ho3 := Option.some.inj ho2; clear ho2; subst ho3
      obtain ⟨ba0, bb0⟩ := fb0.read; have bl0 := fb0.lt
      obtain ⟨ba1, bb1⟩ := fb1.read; have bl1 := fb1.lt
      simp only [Act.put, List.setIfInBounds_toArray, List.set_cons_zero, List.set_cons_succ]
      simp only [cond_true, cond_false]
      refine inv_op ho (by kernel_rfl) (fun K hK => ?_)
      clear ho
      go_simp
      refine hK.out _ _ ?_
      unfold ROverI
      refine ⟨gg0, gg1, true, gg3, gg4, true, true, gg7, gg8, gg9, gg10, gg11, gg12, gg13, gg14, gg15, gg16, gg17, gg18, gg19, gg20, gg21, gg22, gg23, gg24, gg25, rfl, by simp only [Act.put, List.setIfInBounds_toArray, List.set_cons_zero, List.set_cons_succ, cond_true, cond_false], ?_, ?_, ?_, ?_, ?_⟩
      · exact fb0
      · exact fb1
      · exact fb2
      · exact fB
      · exact fL
    · have ge7 : gg7 = false := hi2
      clear hall hi1 hi2
      subst ge7
      have ho2 := ho
      simp only [List.getElem?_toArray, List.getElem?_cons_zero, List.getElem?_cons_succ] at ho2
      have ho3 := Option.some.inj ho2; clear ho2; subst ho3
      obtain ⟨ba0, bb0⟩ := fb0.read; have bl0 := fb0.lt
      obtain ⟨ba1, bb1⟩ := fb1.read; have bl1 := fb1.lt
      simp only [Act.put, List.setIfInBounds_toArray, List.set_cons_zero, List.set_cons_succ]
      simp only [cond_true, cond_false]
      refine inv_op ho (by kernel_rfl) (fun K hK => ?_)
      clear ho
      go_simp
      refine hK.out _ _ ?_
      unfold ROverI
      refine ⟨gg0, gg1, gg2, gg3, gg4, gg5, gg6, true, gg8, gg9, gg10, gg11, gg12, gg13, gg14, gg15, gg16, gg17, gg18, gg19, gg20, gg21, gg22, gg23, gg24, gg25, rfl, by simp only [Act.put, List.setIfInBounds_toArray, List.set_cons_zero, List.set_cons_succ, cond_true, cond_false], ?_, ?_, ?_, ?_, ?_⟩
      · exact fb0
      · exact fb1
      · exact fb2
      · exact fB
      · exact fL
    · have ge8 : gg8 = false := hi2
      have ge7 : gg7 = true := inv_dep ho hall 7 (by kernel_rfl)
      clear hall hi1 hi2
      subst ge8 ge7
      have ho2 := ho
      simp only [List.getElem?_toArray, List.getElem?_cons_zero, List.getElem?_cons_succ] at ho2
      have ho3 := Option.some.inj ho2; clear ho2; subst ho3
      obtain ⟨ba0, bb0⟩ := fb0.read; have bl0 := fb0.lt
      obtain ⟨ba1, bb1⟩ := fb1.read; have bl1 := fb1.lt
      simp only [Act.put, List.setIfInBounds_toArray, List.set_cons_zero, List.set_cons_succ]
      simp only [cond_true, cond_false]
      refine inv_op ho (by kernel_rfl) (fun K hK => ?_)
      clear ho
      go_simp
      refine hK.out _ _ ?_
      unfold ROverI
      refine ⟨gg0, gg1, gg2, gg3, gg4, gg5, gg6, true, true, gg9, gg10, gg11, gg12, gg13, gg14, gg15, gg16, gg17, gg18, gg19, gg20, gg21, gg22, gg23, gg24, gg25, rfl, by simp only [Act.put, List.setIfInBounds_toArray, List.set_cons_zero, List.set_cons_succ, cond_true, cond_false], ?_, ?_, ?_, ?_, ?_⟩
      · exact fb0
      · exact fb1
      · exact fb2
      · exact fB
      · exact fL
    · have ge9 : gg9 = false := hi2
      have ge8 : gg8 = true := inv_dep ho hall 8 (by kernel_rfl)
      clear hall hi1 hi2
      subst ge9 ge8
      have ho2 := ho
      simp only [List.getElem?_toArray, List.getElem?_cons_zero, List.getElem?_cons_succ] at ho2
      have ho3 := Option.some.inj ho2; clear ho2; subst ho3
      obtain ⟨ba0, bb0⟩ := fb0.read; have bl0 := fb0.lt
      obtain ⟨ba1, bb1⟩ := fb1.read; have bl1 := fb1.lt
      simp only [Act.put, List.setIfInBounds_toArray, List.set_cons_zero, List.set_cons_succ]
      simp only [cond_true, cond_false]
      refine inv_op ho (by kernel_rfl) (fun K hK => ?_)
      clear ho
      go_simp
      go_at_call 133; (with_reducible refine (HM1.out _).mono ?_); rintro e w1 ⟨rfl, rfl⟩
      refine hK.out _ _ ?_
      unfold ROverI
      refine ⟨gg0, gg1, gg2, gg3, gg4, gg5, gg6, gg7, true, true, gg10, gg11, gg12, gg13, gg14, gg15, gg16, gg17, gg18, gg19, gg20, gg21, gg22, gg23, gg24, gg25, rfl, by simp only [Act.put, List.setIfInBounds_toArray, List.set_cons_zero, List.set_cons_succ, cond_true, cond_false], ?_, ?_, ?_, ?_, ?_⟩
      · exact fb0
      · exact fb1
      · exact fb2
      · exact fB
      · exact fL
    · have ge10 : gg10 = false := hi2
      clear hall hi1 hi2
      subst ge10
      have ho2 := ho
      simp only [List.getElem?_toArray, List.getElem?_cons_zero, List.getElem?_cons_succ] at ho2
      have ho3 := Option.some.inj ho2; clear ho2; subst ho3
      obtain ⟨ba0, bb0⟩ := fb0.read; have bl0 := fb0.lt
      obtain ⟨ba1, bb1⟩ := fb1.read; have bl1 := fb1.lt
      simp only [Act.put, List.setIfInBounds_toArray, List.set_cons_zero, List.set_cons_succ]
      simp only [cond_true, cond_false]
      refine inv_op ho (by kernel_rfl) (fun K hK => ?_)
      clear ho
      go_simp
      refine hK.out _ _ ?_
      unfold ROverI
      refine ⟨gg0, gg1, gg2, gg3, gg4, gg5, gg6, gg7, gg8, gg9, true, gg11, gg12, gg13, gg14, gg15, gg16, gg17, gg18, gg19, gg20, gg21, gg22, gg23, gg24, gg25, rfl, by simp only [Act.put, List.setIfInBounds_toArray, List.set_cons_zero, List.set_cons_succ, cond_true, cond_false], ?_, ?_, ?_, ?_, ?_⟩
      · exact fb0
      · exact fb1
      · exact fb2
      · exact fB
      · exact fL
    · have ge11 : gg11 = false := hi2
      have ge10 : gg10 = true := inv_dep ho hall 10 (by kernel_rfl)
      clear hall hi1 hi2
      subst ge11 ge10
      have ho2 := ho
      simp only [List.getElem?_toArray, List.getElem?_cons_zero, List.getElem?_cons_succ] at ho2
      have ho3 := Option.some.inj ho2; clear ho2; subst ho3
      obtain ⟨ba0, bb0⟩ := fb0.read; have bl0 := fb0.lt
      obtain ⟨ba1, bb1⟩ := fb1.read; have bl1 := fb1.lt
      simp only [Act.put, List.setIfInBounds_toArray, List.set_cons_zero, List.set_cons_succ]
      simp only [cond_true, cond_false]
      refine inv_op ho (by kernel_rfl) (fun K hK => ?_)
      clear ho
      go_simp
      refine hK.out _ _ ?_
      unfold ROverI
      refine ⟨gg0, gg1, gg2, gg3, gg4, gg5, gg6, gg7, gg8, gg9, true, true, gg12, gg13, gg14, gg15, gg16, gg17, gg18, gg19, gg20, gg21, gg22, gg23, gg24, gg25, rfl, by simp only [Act.put, List.setIfInBounds_toArray, List.set_cons_zero, List.set_cons_succ, cond_true, cond_false], ?_, ?_, ?_, ?_, ?_⟩
      · exact fb0
      · exact fb1
      · exact fb2
      · exact fB
      · exact fL
    · have ge12 : gg12 = false := hi2
      have ge11 : gg11 = true := inv_dep ho hall 11 (by kernel_rfl)
      clear hall hi1 hi2
      subst ge12 ge11
      have ho2 := ho
      simp only [List.getElem?_toArray, List.getElem?_cons_zero, List.getElem?_cons_succ] at ho2
      have ho3 := Option.some.inj ho2; clear ho2; subst ho3
      obtain ⟨ba0, bb0⟩ := fb0.read; have bl0 := fb0.lt
      obtain ⟨ba1, bb1⟩ := fb1.read; have bl1 := fb1.lt
      simp only [Act.put, List.setIfInBounds_toArray, List.set_cons_zero, List.set_cons_succ]
      simp only [cond_true, cond_false]
      refine inv_op ho (by kernel_rfl) (fun K hK => ?_)
      clear ho
      go_simp
      go_at_call 133; (with_reducible refine (HM2.out _).mono ?_); rintro e w1 ⟨rfl, rfl⟩
      refine hK.out _ _ ?_
      unfold ROverI
      refine ⟨gg0, gg1, gg2, gg3, gg4, gg5, gg6, gg7, gg8, gg9, gg10, true, true, gg13, gg14, gg15, gg16, gg17, gg18, gg19, gg20, gg21, gg22, gg23, gg24, gg25, rfl, by simp only [Act.put, List.setIfInBounds_toArray, List.set_cons_zero, List.set_cons_succ, cond_true, cond_false], ?_, ?_, ?_, ?_, ?_⟩
      · exact fb0
      · exact fb1
      · exact fb2
      · exact fB
      · exact fL
    · have ge13 : gg13 = false := hi2
      have ge9 : gg9 = true := inv_dep ho hall 9 (by kernel_rfl)
      have ge12 : gg12 = true := inv_dep ho hall 12 (by kernel_rfl)
      clear hall hi1 hi2
      subst ge13 ge9 ge12
      have ho2 := ho
      simp only [List.getElem?_toArray, List.getElem?_cons_zero, List.getElem?_cons_succ] at ho2
      have ho3 := Option.some.inj ho2; clear ho2; subst ho3
      obtain ⟨ba0, bb0⟩ := fb0.read; have bl0 := fb0.lt
      obtain ⟨ba1, bb1⟩ := fb1.read; have bl1 := fb1.lt
      simp only [Act.put, List.setIfInBounds_toArray, List.set_cons_zero, List.set_cons_succ]
      simp only [cond_true, cond_false]
      refine inv_op ho (by kernel_rfl) (fun K hK => ?_)
      clear ho
      go_simp
      go_at_call 136; (with_reducible refine (HX.out _).mono ?_); rintro e w1 ⟨rfl, hb⟩
      refine hK.out _ _ ?_
      unfold ROverI
      refine ⟨gg0, gg1, gg2, gg3, gg4, gg5, gg6, gg7, gg8, true, gg10, gg11, true, true, gg14, gg15, gg16, gg17, gg18, gg19, gg20, gg21, gg22, gg23, gg24, gg25, rfl, by simp only [Act.put, List.setIfInBounds_toArray, List.set_cons_zero, List.set_cons_succ, cond_true, cond_false], ?_, ?_, ?_, ?_, ?_⟩
      · exact Blk.later hb fb0
      · exact Blk.later hb fb1
      · exact Blk.later hb fb2
      · exact belowThru fB hb
      · have := hb.size; omega
    · have ge14 : gg14 = false := hi2
      clear hall hi1 hi2
      subst ge14
      have ho2 := ho
      simp only [List.getElem?_toArray, List.getElem?_cons_zero, List.getElem?_cons_succ] at ho2
      have ho3 := Option.some.inj ho2; clear ho2; subst ho3
      obtain ⟨ba0, bb0⟩ := fb0.read; have bl0 := fb0.lt
      obtain ⟨ba1, bb1⟩ := fb1.read; have bl1 := fb1.lt
      simp only [Act.put, List.setIfInBounds_toArray, List.set_cons_zero, List.set_cons_succ]
      simp only [cond_true, cond_false]
      refine inv_op ho (by kernel_rfl) (fun K hK => ?_)
      clear ho
      go_simp
      refine hK.out _ _ ?_
      unfold ROverI
      refine ⟨gg0, gg1, gg2, gg3, gg4, gg5, gg6, gg7, gg8, gg9, gg10, gg11, gg12, gg13, true, gg15, gg16, gg17, gg18, gg19, gg20, gg21, gg22, gg23, gg24, gg25, rfl, by simp only [Act.put, List.setIfInBounds_toArray, List.set_cons_zero, List.set_cons_succ, cond_true, cond_false], ?_, ?_, ?_, ?_, ?_⟩
      · exact fb0
      · exact fb1
      · exact fb2
      · exact fB
      · exact fL
    · have ge15 : gg15 = false := hi2
      have ge14 : gg14 = true := inv_dep ho hall 14 (by kernel_rfl)
      clear hall hi1 hi2
      subst ge15 ge14
      have ho2 := ho
      simp only [List.getElem?_toArray, List.getElem?_cons_zero, List.getElem?_cons_succ] at ho2
      have ho3 := Option.some.inj ho2; clear ho2; subst ho3
      obtain ⟨ba0, bb0⟩ := fb0.read; have bl0 := fb0.lt
      obtain ⟨ba1, bb1⟩ := fb1.read; have bl1 := fb1.lt
      simp only [Act.put, List.setIfInBounds_toArray, List.set_cons_zero, List.set_cons_succ]
      simp only [cond_true, cond_false]
      refine inv_op ho (by kernel_rfl) (fun K hK => ?_)
      clear ho
      go_simp
      refine hK.out _ _ ?_
      unfold ROverI
      refine ⟨gg0, gg1, gg2, gg3, gg4, gg5, gg6, gg7, gg8, gg9, gg10, gg11, gg12, gg13, true, true, gg16, gg17, gg18, gg19, gg20, gg21, gg22, gg23, gg24, gg25, rfl, by simp only [Act.put, List.setIfInBounds_toArray, List.set_cons_zero, List.set_cons_succ, cond_true, cond_false], ?_, ?_, ?_, ?_, ?_⟩
      · exact fb0
      · exact fb1
      · exact fb2
      · exact fB
      · exact fL
    · have ge16 : gg16 = false := hi2
      have ge15 : gg15 = true := inv_dep ho hall 15 (by kernel_rfl)
      clear hall hi1 hi2
      subst ge16 ge15
      have ho2 := ho
      simp only [List.getElem?_toArray, List.getElem?_cons_zero, List.getElem?_cons_succ] at ho2
      have ho3 := Option.some.inj ho2; clear ho2; subst ho3
      obtain ⟨ba0, bb0⟩ := fb0.read; have bl0 := fb0.lt
      obtain ⟨ba1, bb1⟩ := fb1.read; have bl1 := fb1.lt
      simp only [Act.put, List.setIfInBounds_toArray, List.set_cons_zero, List.set_cons_succ]
      simp only [cond_true, cond_false]
      refine inv_op ho (by kernel_rfl) (fun K hK => ?_)
      clear ho
      go_simp
      go_at_call 133; (with_reducible refine (HM3.out _).mono ?_); rintro e w1 ⟨rfl, rfl⟩
      refine hK.out _ _ ?_
      unfold ROverI
      refine ⟨gg0, gg1, gg2, gg3, gg4, gg5, gg6, gg7, gg8, gg9, gg10, gg11, gg12, gg13, gg14, true, true, gg17, gg18, gg19, gg20, gg21, gg22, gg23, gg24, gg25, rfl, by simp only [Act.put, List.setIfInBounds_toArray, List.set_cons_zero, List.set_cons_succ, cond_true, cond_false], ?_, ?_, ?_, ?_, ?_⟩
      · exact fb0
      · exact fb1
      · exact fb2
      · exact fB
      · exact fL
    · have ge17 : gg17 = false := hi2
      clear hall hi1 hi2
      subst ge17
      have ho2 := ho
      simp only [List.getElem?_toArray, List.getElem?_cons_zero, List.getElem?_cons_succ] at ho2
      have ho3 := Option.some.inj ho2; clear ho2; subst ho3
      obtain ⟨ba0, bb0⟩ := fb0.read; have bl0 := fb0.lt
      obtain ⟨ba1, bb1⟩ := fb1.read; have bl1 := fb1.lt
      simp only [Act.put, List.setIfInBounds_toArray, List.set_cons_zero, List.set_cons_succ]
      simp only [cond_true, cond_false]
      refine inv_op ho (by kernel_rfl) (fun K hK => ?_)
      clear ho
      go_simp
      refine hK.out _ _ ?_
      unfold ROverI
      refine ⟨gg0, gg1, gg2, gg3, gg4, gg5, gg6, gg7, gg8, gg9, gg10, gg11, gg12, gg13, gg14, gg15, gg16, true, gg18, gg19, gg20, gg21, gg22, gg23, gg24, gg25, rfl, by simp only [Act.put, List.setIfInBounds_toArray, List.set_cons_zero, List.set_cons_succ, cond_true, cond_false], ?_, ?_, ?_, ?_, ?_⟩
      · exact fb0
      · exact fb1
      · exact fb2
      · exact fB
      · exact fL
    · have ge18 : gg18 = false := hi2
      have ge17 : gg17 = true := inv_dep ho hall 17 (by kernel_rfl)
      clear hall hi1 hi2
      subst ge18 ge17
      have ho2 := ho
      simp only [List.getElem?_toArray, List.getElem?_cons_zero, List.getElem?_cons_succ] at ho2
      have ho3 := Option.some.inj ho2; clear ho2; subst ho3
      obtain ⟨ba0, bb0⟩ := fb0.read; have bl0 := fb0.lt
      obtain ⟨ba1, bb1⟩ := fb1.read; have bl1 := fb1.lt
      simp only [Act.put, List.setIfInBounds_toArray, List.set_cons_zero, List.set_cons_succ]
      simp only [cond_true, cond_false]
      refine inv_op ho (by kernel_rfl) (fun K hK => ?_)
      clear ho
      go_simp
      refine hK.out _ _ ?_
      unfold ROverI
      refine ⟨gg0, gg1, gg2, gg3, gg4, gg5, gg6, gg7, gg8, gg9, gg10, gg11, gg12, gg13, gg14, gg15, gg16, true, true, gg19, gg20, gg21, gg22, gg23, gg24, gg25, rfl, by simp only [Act.put, List.setIfInBounds_toArray, List.set_cons_zero, List.set_cons_succ, cond_true, cond_false], ?_, ?_, ?_, ?_, ?_⟩
      · exact fb0
      · exact fb1
      · exact fb2
      · exact fB
      · exact fL
    · have ge19 : gg19 = false := hi2
      have ge18 : gg18 = true := inv_dep ho hall 18 (by kernel_rfl)
      clear hall hi1 hi2
      subst ge19 ge18
      have ho2 := ho
      simp only [List.getElem?_toArray, List.getElem?_cons_zero, List.getElem?_cons_succ] at ho2
      have ho3 := Option.some.inj ho2; clear ho2; subst ho3
      obtain ⟨ba0, bb0⟩ := fb0.read; have bl0 := fb0.lt
      obtain ⟨ba1, bb1⟩ := fb1.read; have bl1 := fb1.lt
      simp only [Act.put, List.setIfInBounds_toArray, List.set_cons_zero, List.set_cons_succ]
      simp only [cond_true, cond_false]
      refine inv_op ho (by kernel_rfl) (fun K hK => ?_)
      clear ho
      go_simp
      go_at_call 133; (with_reducible refine (HM4.out _).mono ?_); rintro e w1 ⟨rfl, rfl⟩
      refine hK.out _ _ ?_
      unfold ROverI
      refine ⟨gg0, gg1, gg2, gg3, gg4, gg5, gg6, gg7, gg8, gg9, gg10, gg11, gg12, gg13, gg14, gg15, gg16, gg17, true, true, gg20, gg21, gg22, gg23, gg24, gg25, rfl, by simp only [Act.put, List.setIfInBounds_toArray, List.set_cons_zero, List.set_cons_succ, cond_true, cond_false], ?_, ?_, ?_, ?_, ?_⟩
      · exact fb0
      · exact fb1
      · exact fb2
      · exact fB
      · exact fL
    · have ge20 : gg20 = false := hi2
      have ge16 : gg16 = true := inv_dep ho hall 16 (by kernel_rfl)
      have ge19 : gg19 = true := inv_dep ho hall 19 (by kernel_rfl)
      clear hall hi1 hi2
      subst ge20 ge16 ge19
      have ho2 := ho
      simp only [List.getElem?_toArray, List.getElem?_cons_zero, List.getElem?_cons_succ] at ho2
      have ho3 := Option.some.inj ho2; clear ho2; subst ho3
      obtain ⟨ba0, bb0⟩ := fb0.read; have bl0 := fb0.lt
      obtain ⟨ba1, bb1⟩ := fb1.read; have bl1 := fb1.lt
      simp only [Act.put, List.setIfInBounds_toArray, List.set_cons_zero, List.set_cons_succ]
      simp only [cond_true, cond_false]
      refine inv_op ho (by kernel_rfl) (fun K hK => ?_)
      clear ho
      go_simp
      go_at_call 136; (with_reducible refine (HY.out _).mono ?_); rintro e w1 ⟨rfl, hb⟩
      refine hK.out _ _ ?_
      unfold ROverI
      refine ⟨gg0, gg1, gg2, gg3, gg4, gg5, gg6, gg7, gg8, gg9, gg10, gg11, gg12, gg13, gg14, gg15, true, gg17, gg18, true, true, gg21, gg22, gg23, gg24, gg25, rfl, by simp only [Act.put, List.setIfInBounds_toArray, List.set_cons_zero, List.set_cons_succ, cond_true, cond_false], ?_, ?_, ?_, ?_, ?_⟩
      · exact Blk.later hb fb0
      · exact Blk.later hb fb1
      · exact Blk.later hb fb2
      · exact belowThru fB hb
      · have := hb.size; omega
    · have ge21 : gg21 = false := hi2
      have ge6 : gg6 = true := inv_dep ho hall 6 (by kernel_rfl)
      have ge13 : gg13 = true := inv_dep ho hall 13 (by kernel_rfl)
      have ge20 : gg20 = true := inv_dep ho hall 20 (by kernel_rfl)
      clear hall hi1 hi2
      subst ge21 ge6 ge13 ge20
      have ho2 := ho
      simp only [List.getElem?_toArray, List.getElem?_cons_zero, List.getElem?_cons_succ] at ho2
      have ho3 := Option.some.inj ho2; clear ho2; subst ho3
      obtain ⟨ba0, bb0⟩ := fb0.read; have bl0 := fb0.lt
      obtain ⟨ba1, bb1⟩ := fb1.read; have bl1 := fb1.lt
      simp only [Act.put, List.setIfInBounds_toArray, List.set_cons_zero, List.set_cons_succ]
      simp only [cond_true, cond_false]
      refine inv_op ho (by kernel_rfl) (fun K hK => ?_)
      clear ho
      go_simp
      go_at_call 139; (with_reducible refine (HL.out _).mono ?_); rintro e w1 ⟨rfl, hb⟩
      refine hK.out _ _ ?_
      unfold ROverI
      refine ⟨gg0, gg1, gg2, gg3, gg4, gg5, true, gg7, gg8, gg9, gg10, gg11, gg12, true, gg14, gg15, gg16, gg17, gg18, gg19, true, true, gg22, gg23, gg24, gg25, rfl, by simp only [Act.put, List.setIfInBounds_toArray, List.set_cons_zero, List.set_cons_succ, cond_true, cond_false], ?_, ?_, ?_, ?_, ?_⟩
      · exact Blk.later hb fb0
      · exact Blk.later hb fb1
      · exact Blk.later hb fb2
      · exact belowThru fB hb
      · have := hb.size; omega
    · have ge22 : gg22 = false := hi2
      have ge21 : gg21 = true := inv_dep ho hall 21 (by kernel_rfl)
      clear hall hi1 hi2
      subst ge22 ge21
      have ho2 := ho
      simp only [List.getElem?_toArray, List.getElem?_cons_zero, List.getElem?_cons_succ] at ho2
      have ho3 := Option.some.inj ho2; clear ho2; subst ho3
      obtain ⟨ba0, bb0⟩ := fb0.read; have bl0 := fb0.lt
      obtain ⟨ba1, bb1⟩ := fb1.read; have bl1 := fb1.lt
      simp only [Act.put, List.setIfInBounds_toArray, List.set_cons_zero, List.set_cons_succ]
      simp only [cond_true, cond_false]
      refine inv_op ho (by kernel_rfl) (fun K hK => ?_)
      clear ho
      go_simp
      refine hK.out _ _ ?_
      unfold ROverI
      refine ⟨gg0, gg1, gg2, gg3, gg4, gg5, gg6, gg7, gg8, gg9, gg10, gg11, gg12, gg13, gg14, gg15, gg16, gg17, gg18, gg19, gg20, true, true, gg23, gg24, gg25, rfl, by simp only [Act.put, List.setIfInBounds_toArray, List.set_cons_zero, List.set_cons_succ, cond_true, cond_false], ?_, ?_, ?_, ?_, ?_⟩
      · exact fb0
      · exact fb1
      · exact fb2
      · exact fB
      · exact fL
    · have ge23 : gg23 = false := hi2
      have ge21 : gg21 = true := inv_dep ho hall 21 (by kernel_rfl)
      clear hall hi1 hi2
      subst ge23 ge21
      have ho2 := ho
      simp only [List.getElem?_toArray, List.getElem?_cons_zero, List.getElem?_cons_succ] at ho2
      have ho3 := Option.some.inj ho2; clear ho2; subst ho3
      obtain ⟨ba0, bb0⟩ := fb0.read; have bl0 := fb0.lt
      obtain ⟨ba1, bb1⟩ := fb1.read; have bl1 := fb1.lt
      simp only [Act.put, List.setIfInBounds_toArray, List.set_cons_zero, List.set_cons_succ]
      simp only [cond_true, cond_false]
      refine inv_op ho (by kernel_rfl) (fun K hK => ?_)
      clear ho
      go_simp
      refine hK.out _ _ ?_
      unfold ROverI
      refine ⟨gg0, gg1, gg2, gg3, gg4, gg5, gg6, gg7, gg8, gg9, gg10, gg11, gg12, gg13, gg14, gg15, gg16, gg17, gg18, gg19, gg20, true, gg22, true, gg24, gg25, rfl, by simp only [Act.put, List.setIfInBounds_toArray, List.set_cons_zero, List.set_cons_succ, cond_true, cond_false], ?_, ?_, ?_, ?_, ?_⟩
      · exact fb0
      · exact fb1
      · exact fb2
      · exact fB
      · exact fL
    · have ge24 : gg24 = false := hi2
      have ge22 : gg22 = true := inv_dep ho hall 22 (by kernel_rfl)
      clear hall hi1 hi2
      subst ge24 ge22
      have ho2 := ho
      simp only [List.getElem?_toArray, List.getElem?_cons_zero, List.getElem?_cons_succ] at ho2
      have ho3 := Option.some.inj ho2; clear ho2; subst ho3
      simp only [cond_true, cond_false] at fb2
      obtain ⟨ba0, bb0⟩ := fb0.read; have bl0 := fb0.lt
      obtain ⟨ba1, bb1⟩ := fb1.read; have bl1 := fb1.lt
      obtain ⟨ba2, bb2⟩ := fb2.read; have bl2 := fb2.lt
      simp only [Act.put, List.setIfInBounds_toArray, List.set_cons_zero, List.set_cons_succ]
      simp only [cond_true, cond_false]
      refine inv_op ho (by kernel_rfl) (fun K hK => ?_)
      clear ho
      go_simp
      refine hK.out _ _ ?_
      unfold ROverI
      refine ⟨gg0, gg1, gg2, gg3, gg4, gg5, gg6, gg7, gg8, gg9, gg10, gg11, gg12, gg13, gg14, gg15, gg16, gg17, gg18, gg19, gg20, gg21, true, gg23, true, gg25, rfl, by simp only [Act.put, List.setIfInBounds_toArray, List.set_cons_zero, List.set_cons_succ, cond_true, cond_false], ?_, ?_, ?_, ?_, ?_⟩
      · (repeat' (first | (with_reducible assumption) | ((with_reducible refine Blk.new ?_); first | rfl | (simp; done)) | (with_reducible refine Blk.later (by assumption) ?_) | (with_reducible refine Blk.alloc ?_) | (with_reducible refine Blk.drewN ?_) | (with_reducible refine Blk.drew ?_) | (with_reducible refine Blk.other ?_ (by first | omega | (simp; done) | (simp; omega)))))
      · (repeat' (first | (with_reducible assumption) | ((with_reducible refine Blk.new ?_); first | rfl | (simp; done)) | (with_reducible refine Blk.later (by assumption) ?_) | (with_reducible refine Blk.alloc ?_) | (with_reducible refine Blk.drewN ?_) | (with_reducible refine Blk.drew ?_) | (with_reducible refine Blk.other ?_ (by first | omega | (simp; done) | (simp; omega)))))
      · exact Blk.set (Blk.set (fb2))
      · (repeat' (first | (with_reducible exact Below.refl _ _) | (with_reducible assumption) | (with_reducible refine belowThru ?_ (by assumption)) | (with_reducible refine belowAlloc ?_) | (with_reducible refine Below.setCell ?_ (by first | omega | (simp; done) | (simp; omega)) _) | (with_reducible refine Below.drew ?_) | (with_reducible refine below_drewN ?_ _)))
      · first | exact fL | (simp; omega)
    · have ge25 : gg25 = false := hi2
      have ge23 : gg23 = true := inv_dep ho hall 23 (by kernel_rfl)
      clear hall hi1 hi2
      subst ge25 ge23
      have ho2 := ho
      simp only [List.getElem?_toArray, List.getElem?_cons_zero, List.getElem?_cons_succ] at ho2
      have ho3 := Option.some.inj ho2; clear ho2; subst ho3
      obtain ⟨ba0, bb0⟩ := fb0.read; have bl0 := fb0.lt
      obtain ⟨ba1, bb1⟩ := fb1.read; have bl1 := fb1.lt
      simp only [Act.put, List.setIfInBounds_toArray, List.set_cons_zero, List.set_cons_succ]
      simp only [cond_true, cond_false]
      refine inv_op ho (by kernel_rfl) (fun K hK => ?_)
      clear ho
      go_simp
      refine hK.out _ _ ?_
      unfold ROverI
      refine ⟨gg0, gg1, gg2, gg3, gg4, gg5, gg6, gg7, gg8, gg9, gg10, gg11, gg12, gg13, gg14, gg15, gg16, gg17, gg18, gg19, gg20, gg21, gg22, true, gg24, true, rfl, by simp only [Act.put, List.setIfInBounds_toArray, List.set_cons_zero, List.set_cons_succ, cond_true, cond_false], ?_, ?_, ?_, ?_, ?_⟩
      · exact fb0
      · exact fb1
      · exact fb2
      · exact fB
      · exact fL
    · exfalso; simp at hi1; omega
  case hfin =>
    intro a w9 hI
    obtain ⟨gg0, gg1, gg2, gg3, gg4, gg5, gg6, gg7, gg8, gg9, gg10, gg11, gg12, gg13, gg14, gg15, gg16, gg17, gg18, gg19, gg20, gg21, gg22, gg23, gg24, gg25, hL, rfl, fb0, fb1, fb2, fB, fL⟩ := hI
    have hL2 : #[true, true, true, true, true, true, true, true, true, true, true, true, true, true, true, true, true, true, true, true, true, true, true, true, true, true] = #[gg0, gg1, gg2, gg3, gg4, gg5, gg6, gg7, gg8, gg9, gg10, gg11, gg12, gg13, gg14, gg15, gg16, gg17, gg18, gg19, gg20, gg21, gg22, gg23, gg24, gg25] := hL
    cases hL2
    simp only [Act.put, List.setIfInBounds_toArray, List.set_cons_zero, List.set_cons_succ]
    simp only [cond_true]
    go_wp2_with fail
    simp only [cond_true] at fb2
    obtain ⟨ra, rb⟩ := fb2.read
    exact bodyPost_ret (v := .tuple #[.agg #[.int .i64 A, .int .i64 B], .bool ok]) (by simp only [results, Try.results118]; go_simp) rfl ⟨rfl, fB⟩

end Go.Proofs.Yticclcimelibdaa
