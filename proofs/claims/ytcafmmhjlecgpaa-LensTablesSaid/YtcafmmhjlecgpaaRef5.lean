/-
  The document's own answers, layer 1: the order of fractions.
-/
import Derived.Test.YtcafmmhjlecgpaaRef4
import Derived.Test.YtcafmmhjlecgpaaInv
import Derived.Deep.DeepCutAuto
import Derived.Deep.RegionHeld3
namespace Go.Proofs.Ytcafmmhjlecgpaa
open Go.RowKit

/-- What holds of the region whichever operations have come up. -/
def ROrderI (a b c d m1 m2 X1 X0 Y1 Y0 : Int) (w : World) (i22 i23 i24 i25 i26 i27 i28 i29 i30 i31 i32 i33 i34 i35 i5 i6 : Value) (b9 : Act) (L9 : Array Bool) (a9 : Act) (w9 : World) : Prop :=
  ∃ (gg0 gg1 gg2 gg3 gg4 gg5 gg6 gg7 gg8 gg9 gg10 gg11 gg12 gg13 gg14 gg15 gg16 gg17 : Bool) (x14 x15 : Nat), L9 = #[gg0, gg1, gg2, gg3, gg4, gg5, gg6, gg7, gg8, gg9, gg10, gg11, gg12, gg13, gg14, gg15, gg16, gg17] ∧ a9 = ((((((((((((((((b9).put (some 22) (cond gg0 (.pointer (some ⟨w.heap.size, 0, none⟩)) (i22))).put (some 23) (cond gg1 (.int .i64 a) (i23))).put (some 24) (cond gg2 (.int .u64 m1) (i24))).put (some 25) (cond gg3 (.pointer (some ⟨(w.heap.size + 1), 1, none⟩)) (i25))).put (some 26) (cond gg4 (.int .i64 d) (i26))).put (some 27) (cond gg5 (.int .u64 d) (i27))).put (some 28) (cond gg6 (.agg #[.int .u64 X1, .int .u64 X0]) (i28))).put (some 29) (cond gg7 (.pointer (some ⟨(w.heap.size + 1), 0, none⟩)) (i29))).put (some 30) (cond gg8 (.int .i64 c) (i30))).put (some 31) (cond gg9 (.int .u64 m2) (i31))).put (some 32) (cond gg10 (.pointer (some ⟨w.heap.size, 1, none⟩)) (i32))).put (some 33) (cond gg11 (.int .i64 b) (i33))).put (some 34) (cond gg12 (.int .u64 b) (i34))).put (some 35) (cond gg13 (.agg #[.int .u64 Y1, .int .u64 Y0]) (i35))).put (some 5) (cond gg14 (.pointer (some ⟨x14, 0, none⟩)) (i5))).put (some 6) (cond gg15 (.pointer (some ⟨x15, 0, none⟩)) (i6)) ∧ Blk w9 w.heap.size #[.int .i64 a, .int .i64 b] 24 ∧ Blk w9 (w.heap.size + 1) #[.int .i64 c, .int .i64 d] 24 ∧ Below w.heap.size w w9 ∧ (w.heap.size + 1 + 1) ≤ w9.heap.size ∧ (gg14 = true → Blk w9 x14 (cond gg16 #[.int .u64 X1, .int .u64 X0] #[.int .u64 0, .int .u64 0]) 154 ∧ (w.heap.size + 1 + 1) ≤ x14) ∧ (gg15 = true → Blk w9 x15 (cond gg17 #[.int .u64 Y1, .int .u64 Y0] #[.int .u64 0, .int .u64 0]) 154 ∧ (w.heap.size + 1 + 1) ≤ x15) ∧ (gg14 = true → gg15 = true → x14 ≠ x15) ∧ (gg16 = true → gg14 = true) ∧ (gg17 = true → gg15 = true)

set_option maxRecDepth 100000 in
set_option maxHeartbeats 8000000 in
set_option linter.unusedSimpArgs false in
theorem rorder_walk (a b c d s t y z m1 m2 X1 X0 Y1 Y0 o : Int) (lt : Bool) (w : World)
    (HS1 : Hid (∀ w, Calls Try.prog 114 #[.int .i64 a] w fun e w' => e = .returned (.int .i64 s) ∧ w = w'))
    (HS2 : Hid (∀ w, Calls Try.prog 114 #[.int .i64 c] w fun e w' => e = .returned (.int .i64 t) ∧ w = w'))
    (HS3 : Hid (∀ w, Calls Try.prog 114 #[.int .i64 y] w fun e w' => e = .returned (.int .i64 z) ∧ w = w'))
    (HM1 : Hid (∀ w, Calls Try.prog 113 #[.int .i64 a] w fun e w' => e = .returned (.int .u64 m1) ∧ w = w'))
    (HD : Hid (∀ w, Calls Try.prog 113 #[.int .i64 d] w fun e w' => e = .returned (.int .u64 d) ∧ w = w'))
    (HM2 : Hid (∀ w, Calls Try.prog 113 #[.int .i64 c] w fun e w' => e = .returned (.int .u64 m2) ∧ w = w'))
    (HB : Hid (∀ w, Calls Try.prog 113 #[.int .i64 b] w fun e w' => e = .returned (.int .u64 b) ∧ w = w'))
    (HX : Hid (∀ w, Calls Try.prog 115 #[.int .u64 m1, .int .u64 d] w fun e w' => e = .returned (.agg #[.int .u64 X1, .int .u64 X0]) ∧ Below w.heap.size w w'))
    (HY : Hid (∀ w, Calls Try.prog 115 #[.int .u64 m2, .int .u64 b] w fun e w' => e = .returned (.agg #[.int .u64 Y1, .int .u64 Y0]) ∧ Below w.heap.size w w'))
    (HL : Hid (∀ w, Calls Try.prog 116 #[.agg #[.int .u64 X1, .int .u64 X0], .agg #[.int .u64 Y1, .int .u64 Y0]] w fun e w' => e = .returned (.bool lt) ∧ Below w.heap.size w w'))
    (hv : ((s != t) = true ∧ IntKind.i64.wrap (s - t) = y ∧ z = o) ∨ ((s != t) = false ∧ ((X1 = Y1 ∧ X0 = Y0 ∧ o = 0) ∨ ((¬ X1 = Y1 ∨ (X1 = Y1 ∧ ¬ X0 = Y0)) ∧ ((lt = true ∧ IntKind.i64.wrap (-s) = o) ∨ (lt = false ∧ s = o)))))) :
    Calls Try.prog 89 #[.agg #[.int .i64 a, .int .i64 b], .agg #[.int .i64 c, .int .i64 d]] w fun e w' => e = .returned (.int .i64 o) ∧ Below w.heap.size w w' := by
  rcases hv with ⟨h1, h2, rfl⟩ | ⟨h1, hv⟩
  · clear HM1 HD HM2 HB HX HY HL
    go_enter Try.func89, Try.ntmps89
    go_wp2
    go_region_held3 (fun w' => (Blk w' w.heap.size #[.int .i64 a, .int .i64 b] 24 ∧ (∀ i : Nat, w'.cell? ⟨w.heap.size, i, none⟩ = (#[.int .i64 a, .int .i64 b] : Array Value)[i]?)) ∧ (Blk w' (w.heap.size + 1) #[.int .i64 c, .int .i64 d] 24 ∧ (∀ i : Nat, w'.cell? ⟨w.heap.size + 1, i, none⟩ = (#[.int .i64 c, .int .i64 d] : Array Value)[i]?)) ∧ Below w.heap.size w w')
      (((first | (apply hold2; (focus assumption); intro p0 p1 pB) | skip); refine ⟨Blk.full ?_, Blk.full ?_, ?_⟩; all_goals (first | ((repeat' (first | (with_reducible assumption) | ((with_reducible refine Blk.new ?_); first | rfl | (simp; done)) | (with_reducible refine Blk.later (by assumption) ?_) | (with_reducible refine Blk.alloc ?_) | (with_reducible refine Blk.drewN ?_) | (with_reducible refine Blk.drew ?_) | (with_reducible refine Blk.other ?_ (by first | omega | (simp; done) | (simp; omega))))); done) | ((repeat' (first | (with_reducible exact Below.refl _ _) | (with_reducible assumption) | (with_reducible refine belowThru ?_ (by assumption)) | (with_reducible refine belowAlloc ?_) | (with_reducible refine Below.setCell ?_ (by first | omega | (simp; done) | (simp; omega)) _) | (with_reducible refine Below.drew ?_) | (with_reducible refine below_drewN ?_ _))); done))))
      (first
      | (go_at_call 114; (with_reducible refine (HS1.out _).mono ?_); rintro e w1 ⟨rfl, rfl⟩)
      | (go_at_call 114; (with_reducible refine (HS2.out _).mono ?_); rintro e w1 ⟨rfl, rfl⟩))
    all_goals
      apply hold2; (focus assumption); intro k0 k1 pB
      obtain ⟨a0, b0⟩ := k0.read; obtain ⟨a1, b1⟩ := k1.read
      have zk0 := k0.lt; have zk1 := k1.lt
      go_wp2_with fail
      go_region_held3 (fun w' => (Blk w' w.heap.size #[.int .i64 a, .int .i64 b] 24 ∧ (∀ i : Nat, w'.cell? ⟨w.heap.size, i, none⟩ = (#[.int .i64 a, .int .i64 b] : Array Value)[i]?)) ∧ (Blk w' (w.heap.size + 1) #[.int .i64 c, .int .i64 d] 24 ∧ (∀ i : Nat, w'.cell? ⟨w.heap.size + 1, i, none⟩ = (#[.int .i64 c, .int .i64 d] : Array Value)[i]?)) ∧ Below w.heap.size w w')
        (((first | (apply hold2; (focus assumption); intro p0 p1 pB) | skip); refine ⟨Blk.full ?_, Blk.full ?_, ?_⟩; all_goals (first | ((repeat' (first | (with_reducible assumption) | ((with_reducible refine Blk.new ?_); first | rfl | (simp; done)) | (with_reducible refine Blk.later (by assumption) ?_) | (with_reducible refine Blk.alloc ?_) | (with_reducible refine Blk.drewN ?_) | (with_reducible refine Blk.drew ?_) | (with_reducible refine Blk.other ?_ (by first | omega | (simp; done) | (simp; omega))))); done) | ((repeat' (first | (with_reducible exact Below.refl _ _) | (with_reducible assumption) | (with_reducible refine belowThru ?_ (by assumption)) | (with_reducible refine belowAlloc ?_) | (with_reducible refine Below.setCell ?_ (by first | omega | (simp; done) | (simp; omega)) _) | (with_reducible refine Below.drew ?_) | (with_reducible refine below_drewN ?_ _))); done))))
        (first
        | (go_at_call 114; (with_reducible refine (HS1.out _).mono ?_); rintro e w1 ⟨rfl, rfl⟩)
        | (go_at_call 114; (with_reducible refine (HS2.out _).mono ?_); rintro e w1 ⟨rfl, rfl⟩)
        | (go_at_call 114; (with_reducible refine (HS3.out _).mono ?_); rintro e w1 ⟨rfl, rfl⟩))
      all_goals
        apply hold2; (focus assumption); intro p0 p1 pB
        go_wp2_with fail
        go_ret
        exact ⟨rfl, by (repeat' (first | (with_reducible exact Below.refl _ _) | (with_reducible assumption) | (with_reducible refine belowThru ?_ (by assumption)) | (with_reducible refine belowAlloc ?_) | (with_reducible refine Below.setCell ?_ (by first | omega | (simp; done) | (simp; omega)) _) | (with_reducible refine Below.drew ?_) | (with_reducible refine below_drewN ?_ _)))⟩
  · clear HS3
    go_enter Try.func89, Try.ntmps89
    go_wp2
    go_region_held3 (fun w' => (Blk w' w.heap.size #[.int .i64 a, .int .i64 b] 24 ∧ (∀ i : Nat, w'.cell? ⟨w.heap.size, i, none⟩ = (#[.int .i64 a, .int .i64 b] : Array Value)[i]?)) ∧ (Blk w' (w.heap.size + 1) #[.int .i64 c, .int .i64 d] 24 ∧ (∀ i : Nat, w'.cell? ⟨w.heap.size + 1, i, none⟩ = (#[.int .i64 c, .int .i64 d] : Array Value)[i]?)) ∧ Below w.heap.size w w')
      (((first | (apply hold2; (focus assumption); intro p0 p1 pB) | skip); refine ⟨Blk.full ?_, Blk.full ?_, ?_⟩; all_goals (first | ((repeat' (first | (with_reducible assumption) | ((with_reducible refine Blk.new ?_); first | rfl | (simp; done)) | (with_reducible refine Blk.later (by assumption) ?_) | (with_reducible refine Blk.alloc ?_) | (with_reducible refine Blk.drewN ?_) | (with_reducible refine Blk.drew ?_) | (with_reducible refine Blk.other ?_ (by first | omega | (simp; done) | (simp; omega))))); done) | ((repeat' (first | (with_reducible exact Below.refl _ _) | (with_reducible assumption) | (with_reducible refine belowThru ?_ (by assumption)) | (with_reducible refine belowAlloc ?_) | (with_reducible refine Below.setCell ?_ (by first | omega | (simp; done) | (simp; omega)) _) | (with_reducible refine Below.drew ?_) | (with_reducible refine below_drewN ?_ _))); done))))
      (first
      | (go_at_call 114; (with_reducible refine (HS1.out _).mono ?_); rintro e w1 ⟨rfl, rfl⟩)
      | (go_at_call 114; (with_reducible refine (HS2.out _).mono ?_); rintro e w1 ⟨rfl, rfl⟩))
    all_goals
      apply hold2; (focus assumption); intro k0 k1 pB
      obtain ⟨a0, b0⟩ := k0.read; obtain ⟨a1, b1⟩ := k1.read
      have zk0 := k0.lt; have zk1 := k1.lt
      go_upto_region 3 with fail
      go_cut [5, 6] (fun s5 s6 wx => At2 wx (w.heap.size + 1 + 1) #[.int .u64 X1, .int .u64 X0] #[.int .u64 Y1, .int .u64 Y0] 154 s5 s6 ∧ Blk wx w.heap.size #[.int .i64 a, .int .i64 b] 24 ∧ Blk wx (w.heap.size + 1) #[.int .i64 c, .int .i64 d] 24 ∧ Below w.heap.size w wx)
      case first =>
        refine wp_region_inv (ROrderI a b c d m1 m2 X1 X0 Y1 Y0 w ?i22 ?i23 ?i24 ?i25 ?i26 ?i27 ?i28 ?i29 ?i30 ?i31 ?i32 ?i33 ?i34 ?i35 ?i5 ?i6) (by kernel_rfl) (by kernel_rfl) ?hsz ?hst ?hstep ?hfin
        case hst =>
          unfold ROrderI
          refine ⟨false, false, false, false, false, false, false, false, false, false, false, false, false, false, false, false, false, false, 0, 0, rfl, ?_, ?_, ?_, ?_, ?_, ?_, ?_, ?_, ?_, ?_⟩
          · first | (simp only [Act.put, List.setIfInBounds_toArray, List.set_cons_zero, List.set_cons_succ, cond_false]; done) | (simp only [Act.put, List.setIfInBounds_toArray, List.set_cons_zero, List.set_cons_succ, cond_false]; rfl)
          all_goals (first | (intro h; cases h; done) | ((repeat' (first | (with_reducible assumption) | ((with_reducible refine Blk.new ?_); first | rfl | (simp; done)) | (with_reducible refine Blk.later (by assumption) ?_) | (with_reducible refine Blk.alloc ?_) | (with_reducible refine Blk.drewN ?_) | (with_reducible refine Blk.drew ?_) | (with_reducible refine Blk.other ?_ (by first | omega | (simp; done) | (simp; omega))))); done) | ((repeat' (first | (with_reducible exact Below.refl _ _) | (with_reducible assumption) | (with_reducible refine belowThru ?_ (by assumption)) | (with_reducible refine belowAlloc ?_) | (with_reducible refine Below.setCell ?_ (by first | omega | (simp; done) | (simp; omega)) _) | (with_reducible refine Below.drew ?_) | (with_reducible refine below_drewN ?_ _))); done) | (simp only [cond_false]; (repeat' (first | (with_reducible assumption) | ((with_reducible refine Blk.new ?_); first | rfl | (simp; done)) | (with_reducible refine Blk.later (by assumption) ?_) | (with_reducible refine Blk.alloc ?_) | (with_reducible refine Blk.drewN ?_) | (with_reducible refine Blk.drew ?_) | (with_reducible refine Blk.other ?_ (by first | omega | (simp; done) | (simp; omega))))); done) | (simp only [World.size_drew]; omega) | (simp only [World.size_drew] at *; omega) | (simp; done) | (simp; omega))
        case hsz =>
          intro L a w9 h
          obtain ⟨gg0, gg1, gg2, gg3, gg4, gg5, gg6, gg7, gg8, gg9, gg10, gg11, gg12, gg13, gg14, gg15, gg16, gg17, x14, x15, rfl, -⟩ := h; rfl
        case hstep =>
          intro L a w9 hI i hi
          obtain ⟨gg0, gg1, gg2, gg3, gg4, gg5, gg6, gg7, gg8, gg9, gg10, gg11, gg12, gg13, gg14, gg15, gg16, gg17, x14, x15, rfl, rfl, fb0, fb1, fB, fL, f14, f15, d14_15, s14, s15⟩ := hI
          obtain ⟨hi1, hi2, o, ho, hall⟩ := inv_mem hi
          clear hi
          rcases i with _ | _ | _ | _ | _ | _ | _ | _ | _ | _ | _ | _ | _ | _ | _ | _ | _ | _ | i
          · have ge0 : gg0 = false := hi2
            clear hall hi1 hi2
            subst ge0
            have ho2 := ho
            simp only [List.getElem?_toArray, List.getElem?_cons_zero, List.getElem?_cons_succ] at ho2
            have ho3 := Option.some.inj ho2; clear ho2; subst ho3
            obtain ⟨ba0, bb0⟩ := fb0.read; have bl0 := fb0.lt
            obtain ⟨ba1, bb1⟩ := fb1.read; have bl1 := fb1.lt
            simp only [Act.put, List.setIfInBounds_toArray, List.set_cons_zero, List.set_cons_succ]
            simp only [cond_true, cond_false]
            refine inv_op ho (by kernel_rfl) (fun K hK => ?_)
            clear ho
            go_simp
            refine hK.out _ _ ?_
            unfold ROrderI
            refine ⟨true, gg1, gg2, gg3, gg4, gg5, gg6, gg7, gg8, gg9, gg10, gg11, gg12, gg13, gg14, gg15, gg16, gg17, x14, x15, rfl, by simp only [Act.put, List.setIfInBounds_toArray, List.set_cons_zero, List.set_cons_succ, cond_true, cond_false], ?_, ?_, ?_, ?_, ?_, ?_, ?_, ?_, ?_⟩
            · exact fb0
            · exact fb1
            · exact fB
            · exact fL
            · exact f14
            · exact f15
            · exact d14_15
            · exact s14
            · exact s15
          · have ge1 : gg1 = false := hi2
            have ge0 : gg0 = true := inv_dep ho hall 0 (by kernel_rfl)
            clear hall hi1 hi2
            subst ge1 ge0
            have ho2 := ho
            simp only [List.getElem?_toArray, List.getElem?_cons_zero, List.getElem?_cons_succ] at ho2
            have ho3 := Option.some.inj ho2; clear ho2; subst ho3
            obtain ⟨ba0, bb0⟩ := fb0.read; have bl0 := fb0.lt
            obtain ⟨ba1, bb1⟩ := fb1.read; have bl1 := fb1.lt
            simp only [Act.put, List.setIfInBounds_toArray, List.set_cons_zero, List.set_cons_succ]
            simp only [cond_true, cond_false]
            refine inv_op ho (by kernel_rfl) (fun K hK => ?_)
            clear ho
            go_simp
            refine hK.out _ _ ?_
            unfold ROrderI
            refine ⟨true, true, gg2, gg3, gg4, gg5, gg6, gg7, gg8, gg9, gg10, gg11, gg12, gg13, gg14, gg15, gg16, gg17, x14, x15, rfl, by simp only [Act.put, List.setIfInBounds_toArray, List.set_cons_zero, List.set_cons_succ, cond_true, cond_false], ?_, ?_, ?_, ?_, ?_, ?_, ?_, ?_, ?_⟩
            · exact fb0
            · exact fb1
            · exact fB
            · exact fL
            · exact f14
            · exact f15
            · exact d14_15
            · exact s14
            · exact s15
          · have ge2 : gg2 = false := hi2
            have ge1 : gg1 = true := inv_dep ho hall 1 (by kernel_rfl)
            clear hall hi1 hi2
            subst ge2 ge1
            have ho2 := ho
            simp only [List.getElem?_toArray, List.getElem?_cons_zero, List.getElem?_cons_succ] at ho2
            have ho3 := Option.some.inj ho2; clear ho2; subst ho3
            obtain ⟨ba0, bb0⟩ := fb0.read; have bl0 := fb0.lt
            obtain ⟨ba1, bb1⟩ := fb1.read; have bl1 := fb1.lt
            simp only [Act.put, List.setIfInBounds_toArray, List.set_cons_zero, List.set_cons_succ]
            simp only [cond_true, cond_false]
            refine inv_op ho (by kernel_rfl) (fun K hK => ?_)
            clear ho
            go_simp
            go_at_call 113; (with_reducible refine (HM1.out _).mono ?_); rintro e w1 ⟨rfl, rfl⟩
            refine hK.out _ _ ?_
            unfold ROrderI
            refine ⟨gg0, true, true, gg3, gg4, gg5, gg6, gg7, gg8, gg9, gg10, gg11, gg12, gg13, gg14, gg15, gg16, gg17, x14, x15, rfl, by simp only [Act.put, List.setIfInBounds_toArray, List.set_cons_zero, List.set_cons_succ, cond_true, cond_false], ?_, ?_, ?_, ?_, ?_, ?_, ?_, ?_, ?_⟩
            · exact fb0
            · exact fb1
            · exact fB
            · exact fL
            · exact f14
            · exact f15
            · exact d14_15
            · exact s14
            · exact s15
          · have ge3 : gg3 = false := hi2
            clear hall hi1 hi2
            subst ge3
            have ho2 := ho
            simp only [List.getElem?_toArray, List.getElem?_cons_zero, List.getElem?_cons_succ] at ho2
            have ho3 := Option.some.inj ho2; clear ho2; subst ho3
            obtain ⟨ba0, bb0⟩ := fb0.read; have bl0 := fb0.lt
            obtain ⟨ba1, bb1⟩ := fb1.read; have bl1 := fb1.lt
            simp only [Act.put, List.setIfInBounds_toArray, List.set_cons_zero, List.set_cons_succ]
            simp only [cond_true, cond_false]
            refine inv_op ho (by kernel_rfl) (fun K hK => ?_)
            clear ho
            go_simp
            refine hK.out _ _ ?_
            unfold ROrderI
            refine ⟨gg0, gg1, gg2, true, gg4, gg5, gg6, gg7, gg8, gg9, gg10, gg11, gg12, gg13, gg14, gg15, gg16, gg17, x14, x15, rfl, by simp only [Act.put, List.setIfInBounds_toArray, List.set_cons_zero, List.set_cons_succ, cond_true, cond_false], ?_, ?_, ?_, ?_, ?_, ?_, ?_, ?_, ?_⟩
            · exact fb0
            · exact fb1
            · exact fB
            · exact fL
            · exact f14
            · exact f15
            · exact d14_15
            · exact s14
            · exact s15
          · have ge4 : gg4 = false := hi2
            have ge3 : gg3 = true := inv_dep ho hall 3 (by kernel_rfl)
            clear hall hi1 hi2
            subst ge4 ge3
            have ho2 := ho
            simp only [List.getElem?_toArray, List.getElem?_cons_zero, List.getElem?_cons_succ] at ho2
            have ho3 := Option.some.inj ho2; clear ho2; subst ho3
            obtain ⟨ba0, bb0⟩ := fb0.read; have bl0 := fb0.lt
            obtain ⟨ba1, bb1⟩ := fb1.read; have bl1 := fb1.lt
            simp only [Act.put, List.setIfInBounds_toArray, List.set_cons_zero, List.set_cons_succ]
            simp only [cond_true, cond_false]
            refine inv_op ho (by kernel_rfl) (fun K hK => ?_)
            clear ho
            go_simp
            refine hK.out _ _ ?_
            unfold ROrderI
            refine ⟨gg0, gg1, gg2, true, true, gg5, gg6, gg7, gg8, gg9, gg10, gg11, gg12, gg13, gg14, gg15, gg16, gg17, x14, x15, rfl, by simp only [Act.put, List.setIfInBounds_toArray, List.set_cons_zero, List.set_cons_succ, cond_true, cond_false], ?_, ?_, ?_, ?_, ?_, ?_, ?_, ?_, ?_⟩
            · exact fb0
            · exact fb1
            · exact fB
            · exact fL
            · exact f14
            · exact f15
            · exact d14_15
            · exact s14
            · exact s15
          · have ge5 : gg5 = false := hi2
            have ge4 : gg4 = true := inv_dep ho hall 4 (by kernel_rfl)
            clear hall hi1 hi2
            subst ge5 ge4
            have ho2 := ho
            simp only [List.getElem?_toArray, List.getElem?_cons_zero, List.getElem?_cons_succ] at ho2
            have ho3 := Option.some.inj ho2; clear ho2; subst ho3
            obtain ⟨ba0, bb0⟩ := fb0.read; have bl0 := fb0.lt
            obtain ⟨ba1, bb1⟩ := fb1.read; have bl1 := fb1.lt
            simp only [Act.put, List.setIfInBounds_toArray, List.set_cons_zero, List.set_cons_succ]
            simp only [cond_true, cond_false]
            refine inv_op ho (by kernel_rfl) (fun K hK => ?_)
            clear ho
            go_simp
            go_at_call 113; (with_reducible refine (HD.out _).mono ?_); rintro e w1 ⟨rfl, rfl⟩
            refine hK.out _ _ ?_
            unfold ROrderI
            refine ⟨gg0, gg1, gg2, gg3, true, true, gg6, gg7, gg8, gg9, gg10, gg11, gg12, gg13, gg14, gg15, gg16, gg17, x14, x15, rfl, by simp only [Act.put, List.setIfInBounds_toArray, List.set_cons_zero, List.set_cons_succ, cond_true, cond_false], ?_, ?_, ?_, ?_, ?_, ?_, ?_, ?_, ?_⟩
            · exact fb0
            · exact fb1
            · exact fB
            · exact fL
            · exact f14
            · exact f15
            · exact d14_15
            · exact s14
            · exact s15
          · have ge6 : gg6 = false := hi2
            have ge2 : gg2 = true := inv_dep ho hall 2 (by kernel_rfl)
            have ge5 : gg5 = true := inv_dep ho hall 5 (by kernel_rfl)
            clear hall hi1 hi2
            subst ge6 ge2 ge5
            have ho2 := ho
            simp only [List.getElem?_toArray, List.getElem?_cons_zero, List.getElem?_cons_succ] at ho2
            have ho3 := Option.some.inj ho2; clear ho2; subst ho3
            obtain ⟨ba0, bb0⟩ := fb0.read; have bl0 := fb0.lt
            obtain ⟨ba1, bb1⟩ := fb1.read; have bl1 := fb1.lt
            simp only [Act.put, List.setIfInBounds_toArray, List.set_cons_zero, List.set_cons_succ]
            simp only [cond_true, cond_false]
            refine inv_op ho (by kernel_rfl) (fun K hK => ?_)
            clear ho
            go_simp
            go_at_call 115; (with_reducible refine (HX.out _).mono ?_); rintro e w1 ⟨rfl, hb⟩
            refine hK.out _ _ ?_
            unfold ROrderI
            refine ⟨gg0, gg1, true, gg3, gg4, true, true, gg7, gg8, gg9, gg10, gg11, gg12, gg13, gg14, gg15, gg16, gg17, x14, x15, rfl, by simp only [Act.put, List.setIfInBounds_toArray, List.set_cons_zero, List.set_cons_succ, cond_true, cond_false], ?_, ?_, ?_, ?_, ?_, ?_, ?_, ?_, ?_⟩
            · exact Blk.later hb fb0
            · exact Blk.later hb fb1
            · exact belowThru fB hb
            · have := hb.size; omega
            · intro h; obtain ⟨p, q⟩ := f14 h; exact ⟨Blk.later hb p, q⟩
            · intro h; obtain ⟨p, q⟩ := f15 h; exact ⟨Blk.later hb p, q⟩
            · exact d14_15
            · exact s14
            · exact s15
          · have ge7 : gg7 = false := hi2
            clear hall hi1 hi2
            subst ge7
            have ho2 := ho
            simp only [List.getElem?_toArray, List.getElem?_cons_zero, List.getElem?_cons_succ] at ho2
            have ho3 := Option.some.inj ho2; clear ho2; subst ho3
            obtain ⟨ba0, bb0⟩ := fb0.read; have bl0 := fb0.lt
            obtain ⟨ba1, bb1⟩ := fb1.read; have bl1 := fb1.lt
            simp only [Act.put, List.setIfInBounds_toArray, List.set_cons_zero, List.set_cons_succ]
            simp only [cond_true, cond_false]
            refine inv_op ho (by kernel_rfl) (fun K hK => ?_)
            clear ho
            go_simp
            refine hK.out _ _ ?_
            unfold ROrderI
            refine ⟨gg0, gg1, gg2, gg3, gg4, gg5, gg6, true, gg8, gg9, gg10, gg11, gg12, gg13, gg14, gg15, gg16, gg17, x14, x15, rfl, by simp only [Act.put, List.setIfInBounds_toArray, List.set_cons_zero, List.set_cons_succ, cond_true, cond_false], ?_, ?_, ?_, ?_, ?_, ?_, ?_, ?_, ?_⟩
            · exact fb0
            · exact fb1
            · exact fB
            · exact fL
            · exact f14
            · exact f15
            · exact d14_15
            · exact s14
            · exact s15
          · have ge8 : gg8 = false := hi2
            have ge7 : gg7 = true := inv_dep ho hall 7 (by kernel_rfl)
            clear hall hi1 hi2
            subst ge8 ge7
            have ho2 := ho
            simp only [List.getElem?_toArray, List.getElem?_cons_zero, List.getElem?_cons_succ] at ho2
            have ho3 := Option.some.inj ho2; clear ho2; subst ho3
            obtain ⟨ba0, bb0⟩ := fb0.read; have bl0 := fb0.lt
            obtain ⟨ba1, bb1⟩ := fb1.read; have bl1 := fb1.lt
            simp only [Act.put, List.setIfInBounds_toArray, List.set_cons_zero, List.set_cons_succ]
            simp only [cond_true, cond_false]
            refine inv_op ho (by kernel_rfl) (fun K hK => ?_)
            clear ho
            go_simp
            refine hK.out _ _ ?_
            unfold ROrderI
            refine ⟨gg0, gg1, gg2, gg3, gg4, gg5, gg6, true, true, gg9, gg10, gg11, gg12, gg13, gg14, gg15, gg16, gg17, x14, x15, rfl, by simp only [Act.put, List.setIfInBounds_toArray, List.set_cons_zero, List.set_cons_succ, cond_true, cond_false], ?_, ?_, ?_, ?_, ?_, ?_, ?_, ?_, ?_⟩
            · exact fb0
            · exact fb1
            · exact fB
            · exact fL
            · exact f14
            · exact f15
            · exact d14_15
            · exact s14
            · exact s15
          · have ge9 : gg9 = false := hi2
            have ge8 : gg8 = true := inv_dep ho hall 8 (by kernel_rfl)
            clear hall hi1 hi2
            subst ge9 ge8
            have ho2 := ho
            simp only [List.getElem?_toArray, List.getElem?_cons_zero, List.getElem?_cons_succ] at ho2
            have ho3 := Option.some.inj ho2; clear ho2; subst ho3
            obtain ⟨ba0, bb0⟩ := fb0.read; have bl0 := fb0.lt
            obtain ⟨ba1, bb1⟩ := fb1.read; have bl1 := fb1.lt
            simp only [Act.put, List.setIfInBounds_toArray, List.set_cons_zero, List.set_cons_succ]
            simp only [cond_true, cond_false]
            refine inv_op ho (by kernel_rfl) (fun K hK => ?_)
            clear ho
            go_simp
            go_at_call 113; (with_reducible refine (HM2.out _).mono ?_); rintro e w1 ⟨rfl, rfl⟩
            refine hK.out _ _ ?_
            unfold ROrderI
            refine ⟨gg0, gg1, gg2, gg3, gg4, gg5, gg6, gg7, true, true, gg10, gg11, gg12, gg13, gg14, gg15, gg16, gg17, x14, x15, rfl, by simp only [Act.put, List.setIfInBounds_toArray, List.set_cons_zero, List.set_cons_succ, cond_true, cond_false], ?_, ?_, ?_, ?_, ?_, ?_, ?_, ?_, ?_⟩
            · exact fb0
            · exact fb1
            · exact fB
            · exact fL
            · exact f14
            · exact f15
            · exact d14_15
            · exact s14
            · exact s15
          · have ge10 : gg10 = false := hi2
            clear hall hi1 hi2
            subst ge10
            have ho2 := ho
            simp only [List.getElem?_toArray, List.getElem?_cons_zero, List.getElem?_cons_succ] at ho2
            have ho3 := Option.some.inj ho2; clear ho2; subst ho3
            obtain ⟨ba0, bb0⟩ := fb0.read; have bl0 := fb0.lt
            obtain ⟨ba1, bb1⟩ := fb1.read; have bl1 := fb1.lt
            simp only [Act.put, List.setIfInBounds_toArray, List.set_cons_zero, List.set_cons_succ]
            simp only [cond_true, cond_false]
            refine inv_op ho (by kernel_rfl) (fun K hK => ?_)
            clear ho
            go_simp
            refine hK.out _ _ ?_
            unfold ROrderI
            refine ⟨gg0, gg1, gg2, gg3, gg4, gg5, gg6, gg7, gg8, gg9, true, gg11, gg12, gg13, gg14, gg15, gg16, gg17, x14, x15, rfl, by simp only [Act.put, List.setIfInBounds_toArray, List.set_cons_zero, List.set_cons_succ, cond_true, cond_false], ?_, ?_, ?_, ?_, ?_, ?_, ?_, ?_, ?_⟩
            · exact fb0
            · exact fb1
            · exact fB
            · exact fL
            · exact f14
            · exact f15
            · exact d14_15
            · exact s14
            · exact s15
          · have ge11 : gg11 = false := hi2
            have ge10 : gg10 = true := inv_dep ho hall 10 (by kernel_rfl)
            clear hall hi1 hi2
            subst ge11 ge10
            have ho2 := ho
            simp only [List.getElem?_toArray, List.getElem?_cons_zero, List.getElem?_cons_succ] at ho2
            have ho3 := Option.some.inj ho2; clear ho2; subst ho3
            obtain ⟨ba0, bb0⟩ := fb0.read; have bl0 := fb0.lt
            obtain ⟨ba1, bb1⟩ := fb1.read; have bl1 := fb1.lt
            simp only [Act.put, List.setIfInBounds_toArray, List.set_cons_zero, List.set_cons_succ]
            simp only [cond_true, cond_false]
            refine inv_op ho (by kernel_rfl) (fun K hK => ?_)
            clear ho
            go_simp
            refine hK.out _ _ ?_
            unfold ROrderI
            refine ⟨gg0, gg1, gg2, gg3, gg4, gg5, gg6, gg7, gg8, gg9, true, true, gg12, gg13, gg14, gg15, gg16, gg17, x14, x15, rfl, by simp only [Act.put, List.setIfInBounds_toArray, List.set_cons_zero, List.set_cons_succ, cond_true, cond_false], ?_, ?_, ?_, ?_, ?_, ?_, ?_, ?_, ?_⟩
            · exact fb0
            · exact fb1
            · exact fB
            · exact fL
            · exact f14
            · exact f15
            · exact d14_15
            · exact s14
            · exact s15
          · have ge12 : gg12 = false := hi2
            have ge11 : gg11 = true := inv_dep ho hall 11 (by kernel_rfl)
            clear hall hi1 hi2
            subst ge12 ge11
            have ho2 := ho
            simp only [List.getElem?_toArray, List.getElem?_cons_zero, List.getElem?_cons_succ] at ho2
            have ho3 := Option.some.inj ho2; clear ho2; subst ho3
            obtain ⟨ba0, bb0⟩ := fb0.read; have bl0 := fb0.lt
            obtain ⟨ba1, bb1⟩ := fb1.read; have bl1 := fb1.lt
            simp only [Act.put, List.setIfInBounds_toArray, List.set_cons_zero, List.set_cons_succ]
            simp only [cond_true, cond_false]
            refine inv_op ho (by kernel_rfl) (fun K hK => ?_)
            clear ho
            go_simp
            go_at_call 113; (with_reducible refine (HB.out _).mono ?_); rintro e w1 ⟨rfl, rfl⟩
            refine hK.out _ _ ?_
            unfold ROrderI
            refine ⟨gg0, gg1, gg2, gg3, gg4, gg5, gg6, gg7, gg8, gg9, gg10, true, true, gg13, gg14, gg15, gg16, gg17, x14, x15, rfl, by simp only [Act.put, List.setIfInBounds_toArray, List.set_cons_zero, List.set_cons_succ, cond_true, cond_false], ?_, ?_, ?_, ?_, ?_, ?_, ?_, ?_, ?_⟩
            · exact fb0
            · exact fb1
            · exact fB
            · exact fL
            · exact f14
            · exact f15
            · exact d14_15
            · exact s14
            · exact s15
          · have ge13 : gg13 = false := hi2
            have ge9 : gg9 = true := inv_dep ho hall 9 (by kernel_rfl)
            have ge12 : gg12 = true := inv_dep ho hall 12 (by kernel_rfl)
            clear hall hi1 hi2
            subst ge13 ge9 ge12
            have ho2 := ho
            simp only [List.getElem?_toArray, List.getElem?_cons_zero, List.getElem?_cons_succ] at ho2
            have ho3 := Option.some.inj ho2; clear ho2; subst ho3
            obtain ⟨ba0, bb0⟩ := fb0.read; have bl0 := fb0.lt
            obtain ⟨ba1, bb1⟩ := fb1.read; have bl1 := fb1.lt
            simp only [Act.put, List.setIfInBounds_toArray, List.set_cons_zero, List.set_cons_succ]
            simp only [cond_true, cond_false]
            refine inv_op ho (by kernel_rfl) (fun K hK => ?_)
            clear ho
            go_simp
            go_at_call 115; (with_reducible refine (HY.out _).mono ?_); rintro e w1 ⟨rfl, hb⟩
            refine hK.out _ _ ?_
            unfold ROrderI
            refine ⟨gg0, gg1, gg2, gg3, gg4, gg5, gg6, gg7, gg8, true, gg10, gg11, true, true, gg14, gg15, gg16, gg17, x14, x15, rfl, by simp only [Act.put, List.setIfInBounds_toArray, List.set_cons_zero, List.set_cons_succ, cond_true, cond_false], ?_, ?_, ?_, ?_, ?_, ?_, ?_, ?_, ?_⟩
            · exact Blk.later hb fb0
            · exact Blk.later hb fb1
            · exact belowThru fB hb
            · have := hb.size; omega
            · intro h; obtain ⟨p, q⟩ := f14 h; exact ⟨Blk.later hb p, q⟩
            · intro h; obtain ⟨p, q⟩ := f15 h; exact ⟨Blk.later hb p, q⟩
            · exact d14_15
            · exact s14
            · exact s15
          · have ge14 : gg14 = false := hi2
            clear hall hi1 hi2
            subst ge14
            have ho2 := ho
            simp only [List.getElem?_toArray, List.getElem?_cons_zero, List.getElem?_cons_succ] at ho2
            have ho3 := Option.some.inj ho2; clear ho2; subst ho3
            obtain ⟨ba0, bb0⟩ := fb0.read; have bl0 := fb0.lt
            obtain ⟨ba1, bb1⟩ := fb1.read; have bl1 := fb1.lt
            obtain rfl : gg16 = false := by cases gg16; rfl; exact Bool.noConfusion (s14 rfl)
            simp only [Act.put, List.setIfInBounds_toArray, List.set_cons_zero, List.set_cons_succ]
            simp only [cond_true, cond_false]
            refine inv_op ho (by kernel_rfl) (fun K hK => ?_)
            clear ho
            go_simp
            refine hK.out _ _ ?_
            unfold ROrderI
            refine ⟨gg0, gg1, gg2, gg3, gg4, gg5, gg6, gg7, gg8, gg9, gg10, gg11, gg12, gg13, true, gg15, false, gg17, w9.heap.size, x15, rfl, by simp only [Act.put, List.setIfInBounds_toArray, List.set_cons_zero, List.set_cons_succ, cond_true, cond_false], ?_, ?_, ?_, ?_, ?_, ?_, ?_, ?_, ?_⟩
            · exact fb0.alloc
            · exact fb1.alloc
            · exact belowAlloc fB
            · simp only [World.size_alloc]; omega
            · intro _; exact ⟨Blk.new rfl, fL⟩
            · intro h; obtain ⟨p, q⟩ := f15 h; exact ⟨p.alloc, q⟩
            · intro _ h; have := (f15 h).1.lt; omega
            · intro _; rfl
            · exact s15
          · have ge15 : gg15 = false := hi2
            clear hall hi1 hi2
            subst ge15
            have ho2 := ho
            simp only [List.getElem?_toArray, List.getElem?_cons_zero, List.getElem?_cons_succ] at ho2
            have ho3 := Option.some.inj ho2; clear ho2; subst ho3
            obtain ⟨ba0, bb0⟩ := fb0.read; have bl0 := fb0.lt
            obtain ⟨ba1, bb1⟩ := fb1.read; have bl1 := fb1.lt
            obtain rfl : gg17 = false := by cases gg17; rfl; exact Bool.noConfusion (s15 rfl)
            simp only [Act.put, List.setIfInBounds_toArray, List.set_cons_zero, List.set_cons_succ]
            simp only [cond_true, cond_false]
            refine inv_op ho (by kernel_rfl) (fun K hK => ?_)
            clear ho
            go_simp
            refine hK.out _ _ ?_
            unfold ROrderI
            refine ⟨gg0, gg1, gg2, gg3, gg4, gg5, gg6, gg7, gg8, gg9, gg10, gg11, gg12, gg13, gg14, true, gg16, false, x14, w9.heap.size, rfl, by simp only [Act.put, List.setIfInBounds_toArray, List.set_cons_zero, List.set_cons_succ, cond_true, cond_false], ?_, ?_, ?_, ?_, ?_, ?_, ?_, ?_, ?_⟩
            · exact fb0.alloc
            · exact fb1.alloc
            · exact belowAlloc fB
            · simp only [World.size_alloc]; omega
            · intro h; obtain ⟨p, q⟩ := f14 h; exact ⟨p.alloc, q⟩
            · intro _; exact ⟨Blk.new rfl, fL⟩
            · intro h _; have := (f14 h).1.lt; omega
            · exact s14
            · intro _; rfl
          · have ge16 : gg16 = false := hi2
            have ge6 : gg6 = true := inv_dep ho hall 6 (by kernel_rfl)
            have ge14 : gg14 = true := inv_dep ho hall 14 (by kernel_rfl)
            clear hall hi1 hi2
            subst ge16 ge6 ge14
            have ho2 := ho
            simp only [List.getElem?_toArray, List.getElem?_cons_zero, List.getElem?_cons_succ] at ho2
            have ho3 := Option.some.inj ho2; clear ho2; subst ho3
            obtain ⟨p14, q14⟩ := f14 rfl
            obtain ⟨ra14, rb14⟩ := p14.read
            have rl14 := p14.lt
            obtain ⟨ba0, bb0⟩ := fb0.read; have bl0 := fb0.lt
            obtain ⟨ba1, bb1⟩ := fb1.read; have bl1 := fb1.lt
            have rl14 := p14.lt
            skip
            simp only [Act.put, List.setIfInBounds_toArray, List.set_cons_zero, List.set_cons_succ]
            simp only [cond_true, cond_false]
            refine inv_op ho (by kernel_rfl) (fun K hK => ?_)
            clear ho
            go_simp
            refine hK.out _ _ ?_
            unfold ROrderI
            refine ⟨gg0, gg1, gg2, gg3, gg4, gg5, true, gg7, gg8, gg9, gg10, gg11, gg12, gg13, true, gg15, true, gg17, x14, x15, rfl, by simp only [Act.put, List.setIfInBounds_toArray, List.set_cons_zero, List.set_cons_succ, cond_true, cond_false], ?_, ?_, ?_, ?_, ?_, ?_, ?_, ?_, ?_⟩
            · (repeat' (first | (with_reducible assumption) | ((with_reducible refine Blk.new ?_); first | rfl | (simp; done)) | (with_reducible refine Blk.later (by assumption) ?_) | (with_reducible refine Blk.alloc ?_) | (with_reducible refine Blk.drewN ?_) | (with_reducible refine Blk.drew ?_) | (with_reducible refine Blk.other ?_ (by first | omega | (simp; done) | (simp; omega)))))
            · (repeat' (first | (with_reducible assumption) | ((with_reducible refine Blk.new ?_); first | rfl | (simp; done)) | (with_reducible refine Blk.later (by assumption) ?_) | (with_reducible refine Blk.alloc ?_) | (with_reducible refine Blk.drewN ?_) | (with_reducible refine Blk.drew ?_) | (with_reducible refine Blk.other ?_ (by first | omega | (simp; done) | (simp; omega)))))
            · (repeat' (first | (with_reducible exact Below.refl _ _) | (with_reducible assumption) | (with_reducible refine belowThru ?_ (by assumption)) | (with_reducible refine belowAlloc ?_) | (with_reducible refine Below.setCell ?_ (by first | omega | (simp; done) | (simp; omega)) _) | (with_reducible refine Below.drew ?_) | (with_reducible refine below_drewN ?_ _)))
            · first | exact fL | (simp; omega)
            · intro _; exact ⟨by exact Blk.set (Blk.set (p14)), q14⟩
            · intro h; obtain ⟨p, q⟩ := f15 h; have hne := d14_15 rfl h; exact ⟨by (repeat' (first | (with_reducible assumption) | ((with_reducible refine Blk.new ?_); first | rfl | (simp; done)) | (with_reducible refine Blk.later (by assumption) ?_) | (with_reducible refine Blk.alloc ?_) | (with_reducible refine Blk.drewN ?_) | (with_reducible refine Blk.drew ?_) | (with_reducible refine Blk.other ?_ (by first | omega | (simp; done) | (simp; omega))))), q⟩
            · exact d14_15
            · intro _; rfl
            · exact s15
          · have ge17 : gg17 = false := hi2
            have ge13 : gg13 = true := inv_dep ho hall 13 (by kernel_rfl)
            have ge15 : gg15 = true := inv_dep ho hall 15 (by kernel_rfl)
            clear hall hi1 hi2
            subst ge17 ge13 ge15
            have ho2 := ho
            simp only [List.getElem?_toArray, List.getElem?_cons_zero, List.getElem?_cons_succ] at ho2
            have ho3 := Option.some.inj ho2; clear ho2; subst ho3
            obtain ⟨p15, q15⟩ := f15 rfl
            obtain ⟨ra15, rb15⟩ := p15.read
            have rl15 := p15.lt
            obtain ⟨ba0, bb0⟩ := fb0.read; have bl0 := fb0.lt
            obtain ⟨ba1, bb1⟩ := fb1.read; have bl1 := fb1.lt
            have rl15 := p15.lt
            skip
            simp only [Act.put, List.setIfInBounds_toArray, List.set_cons_zero, List.set_cons_succ]
            simp only [cond_true, cond_false]
            refine inv_op ho (by kernel_rfl) (fun K hK => ?_)
            clear ho
            go_simp
            refine hK.out _ _ ?_
            unfold ROrderI
            refine ⟨gg0, gg1, gg2, gg3, gg4, gg5, gg6, gg7, gg8, gg9, gg10, gg11, gg12, true, gg14, true, gg16, true, x14, x15, rfl, by simp only [Act.put, List.setIfInBounds_toArray, List.set_cons_zero, List.set_cons_succ, cond_true, cond_false], ?_, ?_, ?_, ?_, ?_, ?_, ?_, ?_, ?_⟩
            · (repeat' (first | (with_reducible assumption) | ((with_reducible refine Blk.new ?_); first | rfl | (simp; done)) | (with_reducible refine Blk.later (by assumption) ?_) | (with_reducible refine Blk.alloc ?_) | (with_reducible refine Blk.drewN ?_) | (with_reducible refine Blk.drew ?_) | (with_reducible refine Blk.other ?_ (by first | omega | (simp; done) | (simp; omega)))))
            · (repeat' (first | (with_reducible assumption) | ((with_reducible refine Blk.new ?_); first | rfl | (simp; done)) | (with_reducible refine Blk.later (by assumption) ?_) | (with_reducible refine Blk.alloc ?_) | (with_reducible refine Blk.drewN ?_) | (with_reducible refine Blk.drew ?_) | (with_reducible refine Blk.other ?_ (by first | omega | (simp; done) | (simp; omega)))))
            · (repeat' (first | (with_reducible exact Below.refl _ _) | (with_reducible assumption) | (with_reducible refine belowThru ?_ (by assumption)) | (with_reducible refine belowAlloc ?_) | (with_reducible refine Below.setCell ?_ (by first | omega | (simp; done) | (simp; omega)) _) | (with_reducible refine Below.drew ?_) | (with_reducible refine below_drewN ?_ _)))
            · first | exact fL | (simp; omega)
            · intro h; obtain ⟨p, q⟩ := f14 h; have hne := d14_15 h rfl; exact ⟨by (repeat' (first | (with_reducible assumption) | ((with_reducible refine Blk.new ?_); first | rfl | (simp; done)) | (with_reducible refine Blk.later (by assumption) ?_) | (with_reducible refine Blk.alloc ?_) | (with_reducible refine Blk.drewN ?_) | (with_reducible refine Blk.drew ?_) | (with_reducible refine Blk.other ?_ (by first | omega | (simp; done) | (simp; omega))))), q⟩
            · intro _; exact ⟨by exact Blk.set (Blk.set (p15)), q15⟩
            · exact d14_15
            · exact s14
            · intro _; rfl
          · exfalso; simp at hi1; omega
        case hfin =>
          intro a w9 hI
          obtain ⟨gg0, gg1, gg2, gg3, gg4, gg5, gg6, gg7, gg8, gg9, gg10, gg11, gg12, gg13, gg14, gg15, gg16, gg17, x14, x15, hL, rfl, fb0, fb1, fB, fL, f14, f15, d14_15, s14, s15⟩ := hI
          have hL2 : #[true, true, true, true, true, true, true, true, true, true, true, true, true, true, true, true, true, true] = #[gg0, gg1, gg2, gg3, gg4, gg5, gg6, gg7, gg8, gg9, gg10, gg11, gg12, gg13, gg14, gg15, gg16, gg17] := hL
          cases hL2
          obtain ⟨p14, q14⟩ := f14 rfl
          obtain ⟨p15, q15⟩ := f15 rfl
          have n14_15 := d14_15 rfl rfl
          clear f14 f15 d14_15 s14 s15
          simp only [Act.put, List.setIfInBounds_toArray, List.set_cons_zero, List.set_cons_succ]
          simp only [cond_true]
          go_wp2_with fail
          go_meet
          refine ⟨At2.mk q14 q15 n14_15 p14 p15, fb0, fb1, fB⟩
      case rest =>
        clear HM1 HD HM2 HB HX HY
        obtain ⟨⟨pb, qb, rfl, rfl, g1, g2, hn, k2, k3⟩, k0, k1, hB⟩ := hcut
        obtain ⟨a0, b0⟩ := k0.read; obtain ⟨a1, b1⟩ := k1.read; obtain ⟨a2, b2⟩ := k2.read; obtain ⟨a3, b3⟩ := k3.read
        have zz0 := k0.lt; have zz1 := k1.lt; have zz2 := k2.lt; have zz3 := k3.lt
        rcases hv with ⟨rfl, rfl, rfl⟩ | ⟨hne | ⟨rfl, hne⟩, ⟨rfl, he⟩ | ⟨rfl, rfl⟩⟩
        all_goals
          go_wp2_with (first
            | (go_at_call 116; (with_reducible refine (HL.out _).mono ?_); rintro e w1 ⟨rfl, hb⟩; (try (have zk := k0.lt; (first | ((with_reducible refine Blk.keepG hb k0 (fun h => ?_) ?_); (focus ((repeat' (first | (with_reducible assumption) | ((with_reducible refine Blk.new ?_); first | rfl | (simp; done)) | (with_reducible refine Blk.later (by assumption) ?_) | (with_reducible refine Blk.alloc ?_) | (with_reducible refine Blk.drewN ?_) | (with_reducible refine Blk.drew ?_) | (with_reducible refine Blk.other ?_ (by first | omega | (simp; done) | (simp; omega))))); done)); clear k0; intro k0) | (with_reducible replace k0 := Blk.later hb (Blk.set (Blk.set k0))) | (with_reducible replace k0 := Blk.later hb (Blk.set k0))); clear a0 b0; obtain ⟨a0, b0⟩ := k0.read; have zl := k0.lt)); (try (have zk := k1.lt; (first | ((with_reducible refine Blk.keepG hb k1 (fun h => ?_) ?_); (focus ((repeat' (first | (with_reducible assumption) | ((with_reducible refine Blk.new ?_); first | rfl | (simp; done)) | (with_reducible refine Blk.later (by assumption) ?_) | (with_reducible refine Blk.alloc ?_) | (with_reducible refine Blk.drewN ?_) | (with_reducible refine Blk.drew ?_) | (with_reducible refine Blk.other ?_ (by first | omega | (simp; done) | (simp; omega))))); done)); clear k1; intro k1) | (with_reducible replace k1 := Blk.later hb (Blk.set (Blk.set k1))) | (with_reducible replace k1 := Blk.later hb (Blk.set k1))); clear a1 b1; obtain ⟨a1, b1⟩ := k1.read; have zl := k1.lt)); (try (have zk := k2.lt; (first | ((with_reducible refine Blk.keepG hb k2 (fun h => ?_) ?_); (focus ((repeat' (first | (with_reducible assumption) | ((with_reducible refine Blk.new ?_); first | rfl | (simp; done)) | (with_reducible refine Blk.later (by assumption) ?_) | (with_reducible refine Blk.alloc ?_) | (with_reducible refine Blk.drewN ?_) | (with_reducible refine Blk.drew ?_) | (with_reducible refine Blk.other ?_ (by first | omega | (simp; done) | (simp; omega))))); done)); clear k2; intro k2) | (with_reducible replace k2 := Blk.later hb (Blk.set (Blk.set k2))) | (with_reducible replace k2 := Blk.later hb (Blk.set k2))); clear a2 b2; obtain ⟨a2, b2⟩ := k2.read; have zl := k2.lt)); (try (have zk := k3.lt; (first | ((with_reducible refine Blk.keepG hb k3 (fun h => ?_) ?_); (focus ((repeat' (first | (with_reducible assumption) | ((with_reducible refine Blk.new ?_); first | rfl | (simp; done)) | (with_reducible refine Blk.later (by assumption) ?_) | (with_reducible refine Blk.alloc ?_) | (with_reducible refine Blk.drewN ?_) | (with_reducible refine Blk.drew ?_) | (with_reducible refine Blk.other ?_ (by first | omega | (simp; done) | (simp; omega))))); done)); clear k3; intro k3) | (with_reducible replace k3 := Blk.later hb (Blk.set (Blk.set k3))) | (with_reducible replace k3 := Blk.later hb (Blk.set k3))); clear a3 b3; obtain ⟨a3, b3⟩ := k3.read; have zl := k3.lt)))
            | (go_at_call 114; (with_reducible refine (HS1.out _).mono ?_); rintro e w1 ⟨rfl, rfl⟩))
          go_ret
          exact ⟨rfl, by (repeat' (first | (with_reducible exact Below.refl _ _) | (with_reducible assumption) | (with_reducible refine belowThru ?_ (by assumption)) | (with_reducible refine belowAlloc ?_) | (with_reducible refine Below.setCell ?_ (by first | omega | (simp; done) | (simp; omega)) _) | (with_reducible refine Below.drew ?_) | (with_reducible refine below_drewN ?_ _)))⟩

end Go.Proofs.Ytcafmmhjlecgpaa
