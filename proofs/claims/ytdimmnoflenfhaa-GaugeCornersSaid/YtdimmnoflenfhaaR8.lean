/-
  The texts that the laws of this seat share, merged: part 8.
-/
import Derived.BigQuiet
import Derived.Deep.CutBlock
import Derived.Deep.DeepCutAuto
import Derived.Deep.Draws
import Derived.Deep.LoopGhost
import Derived.Deep.QuietTactic
import Derived.Deep.RegionHeld3
import Derived.Deep.RegionLaw
import Derived.IntWalk
import Derived.Laws.AppendOwn
import Derived.Laws.Bits64b
import Derived.Lib.Hide
import Derived.Lib.ItoaNum
import Derived.LoopTactic
import Derived.OneCell
import Derived.Orders
import Derived.Shelf.Bits.Mul64
import Derived.Shelf.Small.Bits
import Derived.Shelf.Spec.BitsCarry
import Derived.Shelf.Strconv.Itoa0
import Derived.Test.YtdimmnoflenfhaaProg
import Derived.WalkKit
import Derived.WalkLawsBesides
import Derived.WalkSmall
import Derived.WalkSpells
import Derived.Test.YtdimmnoflenfhaaR2
import Derived.Test.YtdimmnoflenfhaaR4
import Derived.Test.YtdimmnoflenfhaaR7
/-
  The document's own answers, layer 1: the order of fractions.
-/
namespace Go.Proofs.Ytdimmnoflenfhaa
open Go.RowKit

/-- What holds of the region whichever operations have come up. -/
def ROrderI (a b c d m1 m2 X1 X0 Y1 Y0 : Int) (w : World) (i22 i23 i24 i25 i26 i27 i28 i29 i30 i31 i32 i33 i34 i35 i5 i6 : Value) (b9 : Act) (L9 : Array Bool) (a9 : Act) (w9 : World) : Prop :=
  ∃ (gg0 gg1 gg2 gg3 gg4 gg5 gg6 gg7 gg8 gg9 gg10 gg11 gg12 gg13 gg14 gg15 gg16 gg17 : Bool) (x14 x15 : Nat), L9 = #[gg0, gg1, gg2, gg3, gg4, gg5, gg6, gg7, gg8, gg9, gg10, gg11, gg12, gg13, gg14, gg15, gg16, gg17] ∧ a9 = ((((((((((((((((b9).put (some 22) (cond gg0 (.pointer (some ⟨w.heap.size, 0, none⟩)) (i22))).put (some 23) (cond gg1 (.int .i64 a) (i23))).put (some 24) (cond gg2 (.int .u64 m1) (i24))).put (some 25) (cond gg3 (.pointer (some ⟨(w.heap.size + 1), 1, none⟩)) (i25))).put (some 26) (cond gg4 (.int .i64 d) (i26))).put (some 27) (cond gg5 (.int .u64 d) (i27))).put (some 28) (cond gg6 (.agg #[.int .u64 X1, .int .u64 X0]) (i28))).put (some 29) (cond gg7 (.pointer (some ⟨(w.heap.size + 1), 0, none⟩)) (i29))).put (some 30) (cond gg8 (.int .i64 c) (i30))).put (some 31) (cond gg9 (.int .u64 m2) (i31))).put (some 32) (cond gg10 (.pointer (some ⟨w.heap.size, 1, none⟩)) (i32))).put (some 33) (cond gg11 (.int .i64 b) (i33))).put (some 34) (cond gg12 (.int .u64 b) (i34))).put (some 35) (cond gg13 (.agg #[.int .u64 Y1, .int .u64 Y0]) (i35))).put (some 5) (cond gg14 (.pointer (some ⟨x14, 0, none⟩)) (i5))).put (some 6) (cond gg15 (.pointer (some ⟨x15, 0, none⟩)) (i6)) ∧ Blk w9 w.heap.size #[.int .i64 a, .int .i64 b] 23 ∧ Blk w9 (w.heap.size + 1) #[.int .i64 c, .int .i64 d] 23 ∧ Below w.heap.size w w9 ∧ (w.heap.size + 1 + 1) ≤ w9.heap.size ∧ (gg14 = true → Blk w9 x14 (cond gg16 #[.int .u64 X1, .int .u64 X0] #[.int .u64 0, .int .u64 0]) 141 ∧ (w.heap.size + 1 + 1) ≤ x14) ∧ (gg15 = true → Blk w9 x15 (cond gg17 #[.int .u64 Y1, .int .u64 Y0] #[.int .u64 0, .int .u64 0]) 141 ∧ (w.heap.size + 1 + 1) ≤ x15) ∧ (gg14 = true → gg15 = true → x14 ≠ x15) ∧ (gg16 = true → gg14 = true) ∧ (gg17 = true → gg15 = true)

set_option maxRecDepth 100000 in
set_option maxHeartbeats 8000000 in
set_option linter.unusedSimpArgs false in
theorem rorder_walk (a b c d s t y z m1 m2 X1 X0 Y1 Y0 o : Int) (lt : Bool) (w : World)
    (HS1 : Hid (∀ w, Calls Try.prog 116 #[.int .i64 a] w fun e w' => e = .returned (.int .i64 s) ∧ w = w'))
    (HS2 : Hid (∀ w, Calls Try.prog 116 #[.int .i64 c] w fun e w' => e = .returned (.int .i64 t) ∧ w = w'))
    (HS3 : Hid (∀ w, Calls Try.prog 116 #[.int .i64 y] w fun e w' => e = .returned (.int .i64 z) ∧ w = w'))
    (HM1 : Hid (∀ w, Calls Try.prog 115 #[.int .i64 a] w fun e w' => e = .returned (.int .u64 m1) ∧ w = w'))
    (HD : Hid (∀ w, Calls Try.prog 115 #[.int .i64 d] w fun e w' => e = .returned (.int .u64 d) ∧ w = w'))
    (HM2 : Hid (∀ w, Calls Try.prog 115 #[.int .i64 c] w fun e w' => e = .returned (.int .u64 m2) ∧ w = w'))
    (HB : Hid (∀ w, Calls Try.prog 115 #[.int .i64 b] w fun e w' => e = .returned (.int .u64 b) ∧ w = w'))
    (HX : Hid (∀ w, Calls Try.prog 114 #[.int .u64 m1, .int .u64 d] w fun e w' => e = .returned (.agg #[.int .u64 X1, .int .u64 X0]) ∧ Below w.heap.size w w'))
    (HY : Hid (∀ w, Calls Try.prog 114 #[.int .u64 m2, .int .u64 b] w fun e w' => e = .returned (.agg #[.int .u64 Y1, .int .u64 Y0]) ∧ Below w.heap.size w w'))
    (HL : Hid (∀ w, Calls Try.prog 119 #[.agg #[.int .u64 X1, .int .u64 X0], .agg #[.int .u64 Y1, .int .u64 Y0]] w fun e w' => e = .returned (.bool lt) ∧ Below w.heap.size w w'))
    (hv : ((s != t) = true ∧ IntKind.i64.wrap (s - t) = y ∧ z = o) ∨ ((s != t) = false ∧ ((X1 = Y1 ∧ X0 = Y0 ∧ o = 0) ∨ ((¬ X1 = Y1 ∨ (X1 = Y1 ∧ ¬ X0 = Y0)) ∧ ((lt = true ∧ IntKind.i64.wrap (-s) = o) ∨ (lt = false ∧ s = o)))))) :
    Calls Try.prog 95 #[.agg #[.int .i64 a, .int .i64 b], .agg #[.int .i64 c, .int .i64 d]] w fun e w' => e = .returned (.int .i64 o) ∧ Below w.heap.size w w' := by
  rcases hv with ⟨h1, h2, rfl⟩ | ⟨h1, hv⟩
  · clear HM1 HD HM2 HB HX HY HL
    go_enter Try.func95, Try.ntmps95
    go_wp2
    go_region_held3 (fun w' => (Blk w' w.heap.size #[.int .i64 a, .int .i64 b] 23 ∧ (∀ i : Nat, w'.cell? ⟨w.heap.size, i, none⟩ = (#[.int .i64 a, .int .i64 b] : Array Value)[i]?)) ∧ (Blk w' (w.heap.size + 1) #[.int .i64 c, .int .i64 d] 23 ∧ (∀ i : Nat, w'.cell? ⟨w.heap.size + 1, i, none⟩ = (#[.int .i64 c, .int .i64 d] : Array Value)[i]?)) ∧ Below w.heap.size w w')
      (((first | (apply hold2; (focus assumption); intro p0 p1 pB) | skip); refine ⟨Blk.full ?_, Blk.full ?_, ?_⟩; all_goals (first | ((repeat' (first | (with_reducible assumption) | ((with_reducible refine Blk.new ?_); first | rfl | (simp; done)) | (with_reducible refine Blk.later (by assumption) ?_) | (with_reducible refine Blk.alloc ?_) | (with_reducible refine Blk.drewN ?_) | (with_reducible refine Blk.drew ?_) | (with_reducible refine Blk.other ?_ (by first | omega | (simp; done) | (simp; omega))))); done) | ((repeat' (first | (with_reducible exact Below.refl _ _) | (with_reducible assumption) | (with_reducible refine belowThru ?_ (by assumption)) | (with_reducible refine belowAlloc ?_) | (with_reducible refine Below.setCell ?_ (by first | omega | (simp; done) | (simp; omega)) _) | (with_reducible refine Below.drew ?_) | (with_reducible refine below_drewN ?_ _))); done))))
      (first
      | (go_at_call 116; (with_reducible refine (HS1.out _).mono ?_); rintro e w1 ⟨rfl, rfl⟩)
      | (go_at_call 116; (with_reducible refine (HS2.out _).mono ?_); rintro e w1 ⟨rfl, rfl⟩))
    all_goals
      apply hold2; (focus assumption); intro k0 k1 pB
      obtain ⟨a0, b0⟩ := k0.read; obtain ⟨a1, b1⟩ := k1.read
      have zk0 := k0.lt; have zk1 := k1.lt
      go_wp2_with fail
      go_region_held3 (fun w' => (Blk w' w.heap.size #[.int .i64 a, .int .i64 b] 23 ∧ (∀ i : Nat, w'.cell? ⟨w.heap.size, i, none⟩ = (#[.int .i64 a, .int .i64 b] : Array Value)[i]?)) ∧ (Blk w' (w.heap.size + 1) #[.int .i64 c, .int .i64 d] 23 ∧ (∀ i : Nat, w'.cell? ⟨w.heap.size + 1, i, none⟩ = (#[.int .i64 c, .int .i64 d] : Array Value)[i]?)) ∧ Below w.heap.size w w')
        (((first | (apply hold2; (focus assumption); intro p0 p1 pB) | skip); refine ⟨Blk.full ?_, Blk.full ?_, ?_⟩; all_goals (first | ((repeat' (first | (with_reducible assumption) | ((with_reducible refine Blk.new ?_); first | rfl | (simp; done)) | (with_reducible refine Blk.later (by assumption) ?_) | (with_reducible refine Blk.alloc ?_) | (with_reducible refine Blk.drewN ?_) | (with_reducible refine Blk.drew ?_) | (with_reducible refine Blk.other ?_ (by first | omega | (simp; done) | (simp; omega))))); done) | ((repeat' (first | (with_reducible exact Below.refl _ _) | (with_reducible assumption) | (with_reducible refine belowThru ?_ (by assumption)) | (with_reducible refine belowAlloc ?_) | (with_reducible refine Below.setCell ?_ (by first | omega | (simp; done) | (simp; omega)) _) | (with_reducible refine Below.drew ?_) | (with_reducible refine below_drewN ?_ _))); done))))
        (first
        | (go_at_call 116; (with_reducible refine (HS1.out _).mono ?_); rintro e w1 ⟨rfl, rfl⟩)
        | (go_at_call 116; (with_reducible refine (HS2.out _).mono ?_); rintro e w1 ⟨rfl, rfl⟩)
        | (go_at_call 116; (with_reducible refine (HS3.out _).mono ?_); rintro e w1 ⟨rfl, rfl⟩))
      all_goals
        apply hold2; (focus assumption); intro p0 p1 pB
        go_wp2_with fail
        go_ret
        exact ⟨rfl, by (repeat' (first | (with_reducible exact Below.refl _ _) | (with_reducible assumption) | (with_reducible refine belowThru ?_ (by assumption)) | (with_reducible refine belowAlloc ?_) | (with_reducible refine Below.setCell ?_ (by first | omega | (simp; done) | (simp; omega)) _) | (with_reducible refine Below.drew ?_) | (with_reducible refine below_drewN ?_ _)))⟩
  · clear HS3
    go_enter Try.func95, Try.ntmps95
    go_wp2
    go_region_held3 (fun w' => (Blk w' w.heap.size #[.int .i64 a, .int .i64 b] 23 ∧ (∀ i : Nat, w'.cell? ⟨w.heap.size, i, none⟩ = (#[.int .i64 a, .int .i64 b] : Array Value)[i]?)) ∧ (Blk w' (w.heap.size + 1) #[.int .i64 c, .int .i64 d] 23 ∧ (∀ i : Nat, w'.cell? ⟨w.heap.size + 1, i, none⟩ = (#[.int .i64 c, .int .i64 d] : Array Value)[i]?)) ∧ Below w.heap.size w w')
      (((first | (apply hold2; (focus assumption); intro p0 p1 pB) | skip); refine ⟨Blk.full ?_, Blk.full ?_, ?_⟩; all_goals (first | ((repeat' (first | (with_reducible assumption) | ((with_reducible refine Blk.new ?_); first | rfl | (simp; done)) | (with_reducible refine Blk.later (by assumption) ?_) | (with_reducible refine Blk.alloc ?_) | (with_reducible refine Blk.drewN ?_) | (with_reducible refine Blk.drew ?_) | (with_reducible refine Blk.other ?_ (by first | omega | (simp; done) | (simp; omega))))); done) | ((repeat' (first | (with_reducible exact Below.refl _ _) | (with_reducible assumption) | (with_reducible refine belowThru ?_ (by assumption)) | (with_reducible refine belowAlloc ?_) | (with_reducible refine Below.setCell ?_ (by first | omega | (simp; done) | (simp; omega)) _) | (with_reducible refine Below.drew ?_) | (with_reducible refine below_drewN ?_ _))); done))))
      (first
      | (go_at_call 116; (with_reducible refine (HS1.out _).mono ?_); rintro e w1 ⟨rfl, rfl⟩)
      | (go_at_call 116; (with_reducible refine (HS2.out _).mono ?_); rintro e w1 ⟨rfl, rfl⟩))
    all_goals
      apply hold2; (focus assumption); intro k0 k1 pB
      obtain ⟨a0, b0⟩ := k0.read; obtain ⟨a1, b1⟩ := k1.read
      have zk0 := k0.lt; have zk1 := k1.lt
      go_upto_region 3 with fail
      go_cut [5, 6] (fun s5 s6 wx => At2 wx (w.heap.size + 1 + 1) #[.int .u64 X1, .int .u64 X0] #[.int .u64 Y1, .int .u64 Y0] 141 s5 s6 ∧ Blk wx w.heap.size #[.int .i64 a, .int .i64 b] 23 ∧ Blk wx (w.heap.size + 1) #[.int .i64 c, .int .i64 d] 23 ∧ Below w.heap.size w wx)
      case first =>
        refine wp_region_inv (ROrderI a b c d m1 m2 X1 X0 Y1 Y0 w ?i22 ?i23 ?i24 ?i25 ?i26 ?i27 ?i28 ?i29 ?i30 ?i31 ?i32 ?i33 ?i34 ?i35 ?i5 ?i6) (by kernel_rfl) (by kernel_rfl) ?hsz ?hst ?hstep ?hfin
        case hst =>
          unfold ROrderI
          refine ⟨false, false, false, false, false, false, false, false, false, false, false, false, false, false, false, false, false, false, 0, 0, rfl, ?_, ?_, ?_, ?_, ?_, ?_, ?_, ?_, ?_, ?_⟩
          · first | (simp only [Act.put, List.setIfInBounds_toArray, List.set_cons_zero, List.set_cons_succ, cond_false]; done) | (simp only [Act.put, List.setIfInBounds_toArray, List.set_cons_zero, List.set_cons_succ, cond_false]; rfl)
          all_goals (first | (intro h; cases h; done) | ((repeat' (first | (with_reducible assumption) | ((with_reducible refine Blk.new ?_); first | rfl | (simp; done)) | (with_reducible refine Blk.later (by assumption) ?_) | (with_reducible refine Blk.alloc ?_) | (with_reducible refine Blk.drewN ?_) | (with_reducible refine Blk.drew ?_) | (with_reducible refine Blk.other ?_ (by first | omega | (simp; done) | (simp; omega))))); done) | ((repeat' (first | (with_reducible exact Below.refl _ _) | (with_reducible assumption) | (with_reducible refine belowThru ?_ (by assumption)) | (with_reducible refine belowAlloc ?_) | (with_reducible refine Below.setCell ?_ (by first | omega | (simp; done) | (simp; omega)) _) | (with_reducible refine Below.drew ?_) | (with_reducible refine below_drewN ?_ _))); done) | (simp only [cond_false]; (repeat' (first | (with_reducible assumption) | ((with_reducible refine Blk.new ?_); first | rfl | (simp; done)) | (with_reducible refine Blk.later (by assumption) ?_) | (with_reducible refine Blk.alloc ?_) | (with_reducible refine Blk.drewN ?_) | (with_reducible refine Blk.drew ?_) | (with_reducible refine Blk.other ?_ (by first | omega | (simp; done) | (simp; omega))))); done) | (simp only [World.size_drew]; omega) | (simp only [World.size_drew] at *; omega) | (simp; done) | (simp; omega))
        case hsz =>
          intro L a w9 h
          obtain ⟨gg0, gg1, gg2, gg3, gg4, gg5, gg6, gg7, gg8, gg9, gg10, gg11, gg12, gg13, gg14, gg15, gg16, gg17, x14, x15, rfl, -⟩ := h; rfl
        case hstep =>
          intro L a w9 hI i hi
          obtain ⟨gg0, gg1, gg2, gg3, gg4, gg5, gg6, gg7, gg8, gg9, gg10, gg11, gg12, gg13, gg14, gg15, gg16, gg17, x14, x15, rfl, rfl, fb0, fb1, fB, fL, f14, f15, d14_15, s14, s15⟩ := hI
          obtain ⟨hi1, hi2, o, ho, hall⟩ := inv_mem hi
          clear hi
          rcases i with _ | _ | _ | _ | _ | _ | _ | _ | _ | _ | _ | _ | _ | _ | _ | _ | _ | _ | i
          · have ge0 : gg0 = false := hi2
            clear hall hi1 hi2
            subst ge0
            have ho2 := ho
            simp only [List.getElem?_toArray, List.getElem?_cons_zero, List.getElem?_cons_succ] at ho2
            have ho3 := Option.some.inj ho2; clear ho2; subst ho3
            obtain ⟨ba0, bb0⟩ := fb0.read; have bl0 := fb0.lt
            obtain ⟨ba1, bb1⟩ := fb1.read; have bl1 := fb1.lt
            simp only [Act.put, List.setIfInBounds_toArray, List.set_cons_zero, List.set_cons_succ]
            simp only [cond_true, cond_false]
            refine inv_op ho (by kernel_rfl) (fun K hK => ?_)
            clear ho
            go_simp
            refine hK.out _ _ ?_
            unfold ROrderI
            refine ⟨true, gg1, gg2, gg3, gg4, gg5, gg6, gg7, gg8, gg9, gg10, gg11, gg12, gg13, gg14, gg15, gg16, gg17, x14, x15, rfl, by simp only [Act.put, List.setIfInBounds_toArray, List.set_cons_zero, List.set_cons_succ, cond_true, cond_false], ?_, ?_, ?_, ?_, ?_, ?_, ?_, ?_, ?_⟩
            · exact fb0
            · exact fb1
            · exact fB
            · exact fL
            · exact f14
            · exact f15
            · exact d14_15
            · exact s14
            · exact s15
          · have ge1 : gg1 = false := hi2
            have ge0 : gg0 = true := inv_dep ho hall 0 (by kernel_rfl)
            clear hall hi1 hi2
            subst ge1 ge0
            have ho2 := ho
            simp only [List.getElem?_toArray, List.getElem?_cons_zero, List.getElem?_cons_succ] at ho2
            have ho3 := Option.some.inj ho2; clear ho2; subst ho3
            obtain ⟨ba0, bb0⟩ := fb0.read; have bl0 := fb0.lt
            obtain ⟨ba1, bb1⟩ := fb1.read; have bl1 := fb1.lt
            simp only [Act.put, List.setIfInBounds_toArray, List.set_cons_zero, List.set_cons_succ]
            simp only [cond_true, cond_false]
            refine inv_op ho (by kernel_rfl) (fun K hK => ?_)
            clear ho
            go_simp
            refine hK.out _ _ ?_
            unfold ROrderI
            refine ⟨true, true, gg2, gg3, gg4, gg5, gg6, gg7, gg8, gg9, gg10, gg11, gg12, gg13, gg14, gg15, gg16, gg17, x14, x15, rfl, by simp only [Act.put, List.setIfInBounds_toArray, List.set_cons_zero, List.set_cons_succ, cond_true, cond_false], ?_, ?_, ?_, ?_, ?_, ?_, ?_, ?_, ?_⟩
            · exact fb0
            · exact fb1
            · exact fB
            · exact fL
            · exact f14
            · exact f15
            · exact d14_15
            · exact s14
            · exact s15
          · have ge2 : gg2 = false := hi2
            have ge1 : gg1 = true := inv_dep ho hall 1 (by kernel_rfl)
            clear hall hi1 hi2
            subst ge2 ge1
            have ho2 := ho
            simp only [List.getElem?_toArray, List.getElem?_cons_zero, List.getElem?_cons_succ] at ho2
            have ho3 := Option.some.inj ho2; clear ho2; subst ho3
            obtain ⟨ba0, bb0⟩ := fb0.read; have bl0 := fb0.lt
            obtain ⟨ba1, bb1⟩ := fb1.read; have bl1 := fb1.lt
            simp only [Act.put, List.setIfInBounds_toArray, List.set_cons_zero, List.set_cons_succ]
            simp only [cond_true, cond_false]
            refine inv_op ho (by kernel_rfl) (fun K hK => ?_)
            clear ho
            go_simp
            go_at_call 115; (with_reducible refine (HM1.out _).mono ?_); rintro e w1 ⟨rfl, rfl⟩
            refine hK.out _ _ ?_
            unfold ROrderI
            refine ⟨gg0, true, true, gg3, gg4, gg5, gg6, gg7, gg8, gg9, gg10, gg11, gg12, gg13, gg14, gg15, gg16, gg17, x14, x15, rfl, by simp only [Act.put, List.setIfInBounds_toArray, List.set_cons_zero, List.set_cons_succ, cond_true, cond_false], ?_, ?_, ?_, ?_, ?_, ?_, ?_, ?_, ?_⟩
            · exact fb0
            · exact fb1
            · exact fB
            · exact fL
            · exact f14
            · exact f15
            · exact d14_15
            · exact s14
            · exact s15
          · have ge3 : gg3 = false := hi2
            clear hall hi1 hi2
            subst ge3
            have ho2 := ho
            simp only [List.getElem?_toArray, List.getElem?_cons_zero, List.getElem?_cons_succ] at ho2
            have ho3 := Option.some.inj ho2; clear ho2; subst ho3
            obtain ⟨ba0, bb0⟩ := fb0.read; have bl0 := fb0.lt
            obtain ⟨ba1, bb1⟩ := fb1.read; have bl1 := fb1.lt
            simp only [Act.put, List.setIfInBounds_toArray, List.set_cons_zero, List.set_cons_succ]
            simp only [cond_true, cond_false]
            refine inv_op ho (by kernel_rfl) (fun K hK => ?_)
            clear ho
            go_simp
            refine hK.out _ _ ?_
            unfold ROrderI
            refine ⟨gg0, gg1, gg2, true, gg4, gg5, gg6, gg7, gg8, gg9, gg10, gg11, gg12, gg13, gg14, gg15, gg16, gg17, x14, x15, rfl, by simp only [Act.put, List.setIfInBounds_toArray, List.set_cons_zero, List.set_cons_succ, cond_true, cond_false], ?_, ?_, ?_, ?_, ?_, ?_, ?_, ?_, ?_⟩
            · exact fb0
            · exact fb1
            · exact fB
            · exact fL
            · exact f14
            · exact f15
            · exact d14_15
            · exact s14
            · exact s15
          · have ge4 : gg4 = false := hi2
            have ge3 : gg3 = true := inv_dep ho hall 3 (by kernel_rfl)
            clear hall hi1 hi2
            subst ge4 ge3
            have ho2 := ho
            simp only [List.getElem?_toArray, List.getElem?_cons_zero, List.getElem?_cons_succ] at ho2
            have ho3 := Option.some.inj ho2; clear ho2; subst ho3
            obtain ⟨ba0, bb0⟩ := fb0.read; have bl0 := fb0.lt
            obtain ⟨ba1, bb1⟩ := fb1.read; have bl1 := fb1.lt
            simp only [Act.put, List.setIfInBounds_toArray, List.set_cons_zero, List.set_cons_succ]
            simp only [cond_true, cond_false]
            refine inv_op ho (by kernel_rfl) (fun K hK => ?_)
            clear ho
            go_simp
            refine hK.out _ _ ?_
            unfold ROrderI
            refine ⟨gg0, gg1, gg2, true, true, gg5, gg6, gg7, gg8, gg9, gg10, gg11, gg12, gg13, gg14, gg15, gg16, gg17, x14, x15, rfl, by simp only [Act.put, List.setIfInBounds_toArray, List.set_cons_zero, List.set_cons_succ, cond_true, cond_false], ?_, ?_, ?_, ?_, ?_, ?_, ?_, ?_, ?_⟩
            · exact fb0
            · exact fb1
            · exact fB
            · exact fL
            · exact f14
            · exact f15
            · exact d14_15
            · exact s14
            · exact s15
          · have ge5 : gg5 = false := hi2
            have ge4 : gg4 = true := inv_dep ho hall 4 (by kernel_rfl)
            clear hall hi1 hi2
            subst ge5 ge4
            have ho2 := ho
            simp only [List.getElem?_toArray, List.getElem?_cons_zero, List.getElem?_cons_succ] at ho2
            have ho3 := Option.some.inj ho2; clear ho2; subst ho3
            obtain ⟨ba0, bb0⟩ := fb0.read; have bl0 := fb0.lt
            obtain ⟨ba1, bb1⟩ := fb1.read; have bl1 := fb1.lt
            simp only [Act.put, List.setIfInBounds_toArray, List.set_cons_zero, List.set_cons_succ]
            simp only [cond_true, cond_false]
            refine inv_op ho (by kernel_rfl) (fun K hK => ?_)
            clear ho
            go_simp
            go_at_call 115; (with_reducible refine (HD.out _).mono ?_); rintro e w1 ⟨rfl, rfl⟩
            refine hK.out _ _ ?_
            unfold ROrderI
            refine ⟨gg0, gg1, gg2, gg3, true, true, gg6, gg7, gg8, gg9, gg10, gg11, gg12, gg13, gg14, gg15, gg16, gg17, x14, x15, rfl, by simp only [Act.put, List.setIfInBounds_toArray, List.set_cons_zero, List.set_cons_succ, cond_true, cond_false], ?_, ?_, ?_, ?_, ?_, ?_, ?_, ?_, ?_⟩
            · exact fb0
            · exact fb1
            · exact fB
            · exact fL
            · exact f14
            · exact f15
            · exact d14_15
            · exact s14
            · exact s15
          · have ge6 : gg6 = false := hi2
            have ge2 : gg2 = true := inv_dep ho hall 2 (by kernel_rfl)
            have ge5 : gg5 = true := inv_dep ho hall 5 (by kernel_rfl)
            clear hall hi1 hi2
            subst ge6 ge2 ge5
            have ho2 := ho
            simp only [List.getElem?_toArray, List.getElem?_cons_zero, List.getElem?_cons_succ] at ho2
            have ho3 := Option.some.inj ho2; clear ho2; subst ho3
            obtain ⟨ba0, bb0⟩ := fb0.read; have bl0 := fb0.lt
            obtain ⟨ba1, bb1⟩ := fb1.read; have bl1 := fb1.lt
            simp only [Act.put, List.setIfInBounds_toArray, List.set_cons_zero, List.set_cons_succ]
            simp only [cond_true, cond_false]
            refine inv_op ho (by kernel_rfl) (fun K hK => ?_)
            clear ho
            go_simp
            go_at_call 114; (with_reducible refine (HX.out _).mono ?_); rintro e w1 ⟨rfl, hb⟩
            refine hK.out _ _ ?_
            unfold ROrderI
            refine ⟨gg0, gg1, true, gg3, gg4, true, true, gg7, gg8, gg9, gg10, gg11, gg12, gg13, gg14, gg15, gg16, gg17, x14, x15, rfl, by simp only [Act.put, List.setIfInBounds_toArray, List.set_cons_zero, List.set_cons_succ, cond_true, cond_false], ?_, ?_, ?_, ?_, ?_, ?_, ?_, ?_, ?_⟩
            · exact Blk.later hb fb0
            · exact Blk.later hb fb1
            · exact belowThru fB hb
            · have := hb.size; omega
            · intro h; obtain ⟨p, q⟩ := f14 h; exact ⟨Blk.later hb p, q⟩
            · intro h; obtain ⟨p, q⟩ := f15 h; exact ⟨Blk.later hb p, q⟩
            · exact d14_15
            · exact s14
            · exact s15
          · have ge7 : gg7 = false := hi2
            clear hall hi1 hi2
            subst ge7
            have ho2 := ho
            simp only [List.getElem?_toArray, List.getElem?_cons_zero, List.getElem?_cons_succ] at ho2
            have ho3 := Option.some.inj ho2; clear ho2; subst ho3
            obtain ⟨ba0, bb0⟩ := fb0.read; have bl0 := fb0.lt
            obtain ⟨ba1, bb1⟩ := fb1.read; have bl1 := fb1.lt
            simp only [Act.put, List.setIfInBounds_toArray, List.set_cons_zero, List.set_cons_succ]
            simp only [cond_true, cond_false]
            refine inv_op ho (by kernel_rfl) (fun K hK => ?_)
            clear ho
            go_simp
            refine hK.out _ _ ?_
            unfold ROrderI
            refine ⟨gg0, gg1, gg2, gg3, gg4, gg5, gg6, true, gg8, gg9, gg10, gg11, gg12, gg13, gg14, gg15, gg16, gg17, x14, x15, rfl, by simp only [Act.put, List.setIfInBounds_toArray, List.set_cons_zero, List.set_cons_succ, cond_true, cond_false], ?_, ?_, ?_, ?_, ?_, ?_, ?_, ?_, ?_⟩
            · exact fb0
            · exact fb1
            · exact fB
            · exact fL
            · exact f14
            · exact f15
            · exact d14_15
            · exact s14
            · exact s15
          · have ge8 : gg8 = false := hi2
            have ge7 : gg7 = true := inv_dep ho hall 7 (by kernel_rfl)
            clear hall hi1 hi2
            subst ge8 ge7
            have ho2 := ho
            simp only [List.getElem?_toArray, List.getElem?_cons_zero, List.getElem?_cons_succ] at ho2
            have ho3 := Option.some.inj ho2; clear ho2; subst ho3
            obtain ⟨ba0, bb0⟩ := fb0.read; have bl0 := fb0.lt
            obtain ⟨ba1, bb1⟩ := fb1.read; have bl1 := fb1.lt
            simp only [Act.put, List.setIfInBounds_toArray, List.set_cons_zero, List.set_cons_succ]
            simp only [cond_true, cond_false]
            refine inv_op ho (by kernel_rfl) (fun K hK => ?_)
            clear ho
            go_simp
            refine hK.out _ _ ?_
            unfold ROrderI
            refine ⟨gg0, gg1, gg2, gg3, gg4, gg5, gg6, true, true, gg9, gg10, gg11, gg12, gg13, gg14, gg15, gg16, gg17, x14, x15, rfl, by simp only [Act.put, List.setIfInBounds_toArray, List.set_cons_zero, List.set_cons_succ, cond_true, cond_false], ?_, ?_, ?_, ?_, ?_, ?_, ?_, ?_, ?_⟩
            · exact fb0
            · exact fb1
            · exact fB
            · exact fL
            · exact f14
            · exact f15
            · exact d14_15
            · exact s14
            · exact s15
          · have ge9 : gg9 = false := hi2
            have ge8 : gg8 = true := inv_dep ho hall 8 (by kernel_rfl)
            clear hall hi1 hi2
            subst ge9 ge8
            have ho2 := ho
            simp only [List.getElem?_toArray, List.getElem?_cons_zero, List.getElem?_cons_succ] at ho2
            have ho3 := Option.some.inj ho2; clear ho2; subst ho3
            obtain ⟨ba0, bb0⟩ := fb0.read; have bl0 := fb0.lt
            obtain ⟨ba1, bb1⟩ := fb1.read; have bl1 := fb1.lt
            simp only [Act.put, List.setIfInBounds_toArray, List.set_cons_zero, List.set_cons_succ]
            simp only [cond_true, cond_false]
            refine inv_op ho (by kernel_rfl) (fun K hK => ?_)
            clear ho
            go_simp
            go_at_call 115; (with_reducible refine (HM2.out _).mono ?_); rintro e w1 ⟨rfl, rfl⟩
            refine hK.out _ _ ?_
            unfold ROrderI
            refine ⟨gg0, gg1, gg2, gg3, gg4, gg5, gg6, gg7, true, true, gg10, gg11, gg12, gg13, gg14, gg15, gg16, gg17, x14, x15, rfl, by simp only [Act.put, List.setIfInBounds_toArray, List.set_cons_zero, List.set_cons_succ, cond_true, cond_false], ?_, ?_, ?_, ?_, ?_, ?_, ?_, ?_, ?_⟩
            · exact fb0
            · exact fb1
            · exact fB
            · exact fL
            · exact f14
            · exact f15
            · exact d14_15
            · exact s14
            · exact s15
          · have ge10 : gg10 = false := hi2
            clear hall hi1 hi2
            subst ge10
            have ho2 := ho
            simp only [List.getElem?_toArray, List.getElem?_cons_zero, List.getElem?_cons_succ] at ho2
            have ho3 := Option.some.inj ho2; clear ho2; subst ho3
            obtain ⟨ba0, bb0⟩ := fb0.read; have bl0 := fb0.lt
            obtain ⟨ba1, bb1⟩ := fb1.read; have bl1 := fb1.lt
            simp only [Act.put, List.setIfInBounds_toArray, List.set_cons_zero, List.set_cons_succ]
            simp only [cond_true, cond_false]
            refine inv_op ho (by kernel_rfl) (fun K hK => ?_)
            clear ho
            go_simp
            refine hK.out _ _ ?_
            unfold ROrderI
            refine ⟨gg0, gg1, gg2, gg3, gg4, gg5, gg6, gg7, gg8, gg9, true, gg11, gg12, gg13, gg14, gg15, gg16, gg17, x14, x15, rfl, by simp only [Act.put, List.setIfInBounds_toArray, List.set_cons_zero, List.set_cons_succ, cond_true, cond_false], ?_, ?_, ?_, ?_, ?_, ?_, ?_, ?_, ?_⟩
            · exact fb0
            · exact fb1
            · exact fB
            · exact fL
            · exact f14
            · exact f15
            · exact d14_15
            · exact s14
            · exact s15
          · have ge11 : gg11 = false := hi2
            have ge10 : gg10 = true := inv_dep ho hall 10 (by kernel_rfl)
            clear hall hi1 hi2
            subst ge11 ge10
            have ho2 := ho
            simp only [List.getElem?_toArray, List.getElem?_cons_zero, List.getElem?_cons_succ] at ho2
            have ho3 := Option.some.inj ho2; clear ho2; subst ho3
            obtain ⟨ba0, bb0⟩ := fb0.read; have bl0 := fb0.lt
            obtain ⟨ba1, bb1⟩ := fb1.read; have bl1 := fb1.lt
            simp only [Act.put, List.setIfInBounds_toArray, List.set_cons_zero, List.set_cons_succ]
            simp only [cond_true, cond_false]
            refine inv_op ho (by kernel_rfl) (fun K hK => ?_)
            clear ho
            go_simp
            refine hK.out _ _ ?_
            unfold ROrderI
            refine ⟨gg0, gg1, gg2, gg3, gg4, gg5, gg6, gg7, gg8, gg9, true, true, gg12, gg13, gg14, gg15, gg16, gg17, x14, x15, rfl, by simp only [Act.put, List.setIfInBounds_toArray, List.set_cons_zero, List.set_cons_succ, cond_true, cond_false], ?_, ?_, ?_, ?_, ?_, ?_, ?_, ?_, ?_⟩
            · exact fb0
            · exact fb1
            · exact fB
            · exact fL
            · exact f14
            · exact f15
            · exact d14_15
            · exact s14
            · exact s15
          · have ge12 : gg12 = false := hi2
            have ge11 : gg11 = true := inv_dep ho hall 11 (by kernel_rfl)
            clear hall hi1 hi2
            subst ge12 ge11
            have ho2 := ho
            simp only [List.getElem?_toArray, List.getElem?_cons_zero, List.getElem?_cons_succ] at ho2
            have ho3 := Option.some.inj ho2; clear ho2; subst ho3
            obtain ⟨ba0, bb0⟩ := fb0.read; have bl0 := fb0.lt
            obtain ⟨ba1, bb1⟩ := fb1.read; have bl1 := fb1.lt
            simp only [Act.put, List.setIfInBounds_toArray, List.set_cons_zero, List.set_cons_succ]
            simp only [cond_true, cond_false]
            refine inv_op ho (by kernel_rfl) (fun K hK => ?_)
            clear ho
            go_simp
            go_at_call 115; (with_reducible refine (HB.out _).mono ?_); rintro e w1 ⟨rfl, rfl⟩
            refine hK.out _ _ ?_
            unfold ROrderI
            refine ⟨gg0, gg1, gg2, gg3, gg4, gg5, gg6, gg7, gg8, gg9, gg10, true, true, gg13, gg14, gg15, gg16, gg17, x14, x15, rfl, by simp only [Act.put, List.setIfInBounds_toArray, List.set_cons_zero, List.set_cons_succ, cond_true, cond_false], ?_, ?_, ?_, ?_, ?_, ?_, ?_, ?_, ?_⟩
            · exact fb0
            · exact fb1
            · exact fB
            · exact fL
            · exact f14
            · exact f15
            · exact d14_15
            · exact s14
            · exact s15
          · have ge13 : gg13 = false := hi2
            have ge9 : gg9 = true := inv_dep ho hall 9 (by kernel_rfl)
            have ge12 : gg12 = true := inv_dep ho hall 12 (by kernel_rfl)
            clear hall hi1 hi2
            subst ge13 ge9 ge12
            have ho2 := ho
            simp only [List.getElem?_toArray, List.getElem?_cons_zero, List.getElem?_cons_succ] at ho2
            have ho3 := Option.some.inj ho2; clear ho2; subst ho3
            obtain ⟨ba0, bb0⟩ := fb0.read; have bl0 := fb0.lt
            obtain ⟨ba1, bb1⟩ := fb1.read; have bl1 := fb1.lt
            simp only [Act.put, List.setIfInBounds_toArray, List.set_cons_zero, List.set_cons_succ]
            simp only [cond_true, cond_false]
            refine inv_op ho (by kernel_rfl) (fun K hK => ?_)
            clear ho
            go_simp
            go_at_call 114; (with_reducible refine (HY.out _).mono ?_); rintro e w1 ⟨rfl, hb⟩
            refine hK.out _ _ ?_
            unfold ROrderI
            refine ⟨gg0, gg1, gg2, gg3, gg4, gg5, gg6, gg7, gg8, true, gg10, gg11, true, true, gg14, gg15, gg16, gg17, x14, x15, rfl, by simp only [Act.put, List.setIfInBounds_toArray, List.set_cons_zero, List.set_cons_succ, cond_true, cond_false], ?_, ?_, ?_, ?_, ?_, ?_, ?_, ?_, ?_⟩
            · exact Blk.later hb fb0
            · exact Blk.later hb fb1
            · exact belowThru fB hb
            · have := hb.size; omega
            · intro h; obtain ⟨p, q⟩ := f14 h; exact ⟨Blk.later hb p, q⟩
            · intro h; obtain ⟨p, q⟩ := f15 h; exact ⟨Blk.later hb p, q⟩
            · exact d14_15
            · exact s14
            · exact s15
          · have ge14 : gg14 = false := hi2
            clear hall hi1 hi2
            subst ge14
            have ho2 := ho
            simp only [List.getElem?_toArray, List.getElem?_cons_zero, List.getElem?_cons_succ] at ho2
            have ho3 := Option.some.inj ho2; clear ho2; subst ho3
            obtain ⟨ba0, bb0⟩ := fb0.read; have bl0 := fb0.lt
            obtain ⟨ba1, bb1⟩ := fb1.read; have bl1 := fb1.lt
            obtain rfl : gg16 = false := by cases gg16; rfl; exact Bool.noConfusion (s14 rfl)
            simp only [Act.put, List.setIfInBounds_toArray, List.set_cons_zero, List.set_cons_succ]
            simp only [cond_true, cond_false]
            refine inv_op ho (by kernel_rfl) (fun K hK => ?_)
            clear ho
            go_simp
            refine hK.out _ _ ?_
            unfold ROrderI
            refine ⟨gg0, gg1, gg2, gg3, gg4, gg5, gg6, gg7, gg8, gg9, gg10, gg11, gg12, gg13, true, gg15, false, gg17, w9.heap.size, x15, rfl, by simp only [Act.put, List.setIfInBounds_toArray, List.set_cons_zero, List.set_cons_succ, cond_true, cond_false], ?_, ?_, ?_, ?_, ?_, ?_, ?_, ?_, ?_⟩
            · exact fb0.alloc
            · exact fb1.alloc
            · exact belowAlloc fB
            · simp only [World.size_alloc]; omega
            · intro _; exact ⟨Blk.new rfl, fL⟩
            · intro h; obtain ⟨p, q⟩ := f15 h; exact ⟨p.alloc, q⟩
            · intro _ h; have := (f15 h).1.lt; omega
            · intro _; rfl
            · exact s15
          · have ge15 : gg15 = false := hi2
            clear hall hi1 hi2
            subst ge15
            have ho2 := ho
            simp only [List.getElem?_toArray, List.getElem?_cons_zero, List.getElem?_cons_succ] at ho2
            have ho3 := Option.some.inj ho2; clear ho2; subst ho3
            obtain ⟨ba0, bb0⟩ := fb0.read; have bl0 := fb0.lt
            obtain ⟨ba1, bb1⟩ := fb1.read; have bl1 := fb1.lt
            obtain rfl : gg17 = false := by cases gg17; rfl; exact Bool.noConfusion (s15 rfl)
            simp only [Act.put, List.setIfInBounds_toArray, List.set_cons_zero, List.set_cons_succ]
            simp only [cond_true, cond_false]
            refine inv_op ho (by kernel_rfl) (fun K hK => ?_)
            clear ho
            go_simp
            refine hK.out _ _ ?_
            unfold ROrderI
            refine ⟨gg0, gg1, gg2, gg3, gg4, gg5, gg6, gg7, gg8, gg9, gg10, gg11, gg12, gg13, gg14, true, gg16, false, x14, w9.heap.size, rfl, by simp only [Act.put, List.setIfInBounds_toArray, List.set_cons_zero, List.set_cons_succ, cond_true, cond_false], ?_, ?_, ?_, ?_, ?_, ?_, ?_, ?_, ?_⟩
            · exact fb0.alloc
            · exact fb1.alloc
            · exact belowAlloc fB
            · simp only [World.size_alloc]; omega
            · intro h; obtain ⟨p, q⟩ := f14 h; exact ⟨p.alloc, q⟩
            · intro _; exact ⟨Blk.new rfl, fL⟩
            · intro h _; have := (f14 h).1.lt; omega
            · exact s14
            · intro _; rfl
          · have ge16 : gg16 = false := hi2
            have ge6 : gg6 = true := inv_dep ho hall 6 (by kernel_rfl)
            have ge14 : gg14 = true := inv_dep ho hall 14 (by kernel_rfl)
            clear hall hi1 hi2
            subst ge16 ge6 ge14
            have ho2 := ho
            simp only [List.getElem?_toArray, List.getElem?_cons_zero, List.getElem?_cons_succ] at ho2
            have ho3 := Option.some.inj ho2; clear ho2; subst ho3
            obtain ⟨p14, q14⟩ := f14 rfl
            obtain ⟨ra14, rb14⟩ := p14.read
            have rl14 := p14.lt
            obtain ⟨ba0, bb0⟩ := fb0.read; have bl0 := fb0.lt
            obtain ⟨ba1, bb1⟩ := fb1.read; have bl1 := fb1.lt
            have rl14 := p14.lt
            skip
            simp only [Act.put, List.setIfInBounds_toArray, List.set_cons_zero, List.set_cons_succ]
            simp only [cond_true, cond_false]
            refine inv_op ho (by kernel_rfl) (fun K hK => ?_)
            clear ho
            go_simp
            refine hK.out _ _ ?_
            unfold ROrderI
            refine ⟨gg0, gg1, gg2, gg3, gg4, gg5, true, gg7, gg8, gg9, gg10, gg11, gg12, gg13, true, gg15, true, gg17, x14, x15, rfl, by simp only [Act.put, List.setIfInBounds_toArray, List.set_cons_zero, List.set_cons_succ, cond_true, cond_false], ?_, ?_, ?_, ?_, ?_, ?_, ?_, ?_, ?_⟩
            · (repeat' (first | (with_reducible assumption) | ((with_reducible refine Blk.new ?_); first | rfl | (simp; done)) | (with_reducible refine Blk.later (by assumption) ?_) | (with_reducible refine Blk.alloc ?_) | (with_reducible refine Blk.drewN ?_) | (with_reducible refine Blk.drew ?_) | (with_reducible refine Blk.other ?_ (by first | omega | (simp; done) | (simp; omega)))))
            · (repeat' (first | (with_reducible assumption) | ((with_reducible refine Blk.new ?_); first | rfl | (simp; done)) | (with_reducible refine Blk.later (by assumption) ?_) | (with_reducible refine Blk.alloc ?_) | (with_reducible refine Blk.drewN ?_) | (with_reducible refine Blk.drew ?_) | (with_reducible refine Blk.other ?_ (by first | omega | (simp; done) | (simp; omega)))))
            · (repeat' (first | (with_reducible exact Below.refl _ _) | (with_reducible assumption) | (with_reducible refine belowThru ?_ (by assumption)) | (with_reducible refine belowAlloc ?_) | (with_reducible refine Below.setCell ?_ (by first | omega | (simp; done) | (simp; omega)) _) | (with_reducible refine Below.drew ?_) | (with_reducible refine below_drewN ?_ _)))
            · first | exact fL | (simp; omega)
            · intro _; exact ⟨by exact Blk.set (Blk.set (p14)), q14⟩
            · intro h; obtain ⟨p, q⟩ := f15 h; have hne := d14_15 rfl h; exact ⟨by (repeat' (first | (with_reducible assumption) | ((with_reducible refine Blk.new ?_); first | rfl | (simp; done)) | (with_reducible refine Blk.later (by assumption) ?_) | (with_reducible refine Blk.alloc ?_) | (with_reducible refine Blk.drewN ?_) | (with_reducible refine Blk.drew ?_) | (with_reducible refine Blk.other ?_ (by first | omega | (simp; done) | (simp; omega))))), q⟩
            · exact d14_15
            · intro _; rfl
            · exact s15
          · have ge17 : gg17 = false := hi2
            have ge13 : gg13 = true := inv_dep ho hall 13 (by kernel_rfl)
            have ge15 : gg15 = true := inv_dep ho hall 15 (by kernel_rfl)
            clear hall hi1 hi2
            subst ge17 ge13 ge15
            have ho2 := ho
            simp only [List.getElem?_toArray, List.getElem?_cons_zero, List.getElem?_cons_succ] at ho2
            have ho3 := Option.some.inj ho2; clear ho2; subst ho3
            obtain ⟨p15, q15⟩ := f15 rfl
            obtain ⟨ra15, rb15⟩ := p15.read
            have rl15 := p15.lt
            obtain ⟨ba0, bb0⟩ := fb0.read; have bl0 := fb0.lt
            obtain ⟨ba1, bb1⟩ := fb1.read; have bl1 := fb1.lt
            have rl15 := p15.lt
            skip
            simp only [Act.put, List.setIfInBounds_toArray, List.set_cons_zero, List.set_cons_succ]
            simp only [cond_true, cond_false]
            refine inv_op ho (by kernel_rfl) (fun K hK => ?_)
            clear ho
            go_simp
            refine hK.out _ _ ?_
            unfold ROrderI
            refine ⟨gg0, gg1, gg2, gg3, gg4, gg5, gg6, gg7, gg8, gg9, gg10, gg11, gg12, true, gg14, true, gg16, true, x14, x15, rfl, by simp only [Act.put, List.setIfInBounds_toArray, List.set_cons_zero, List.set_cons_succ, cond_true, cond_false], ?_, ?_, ?_, ?_, ?_, ?_, ?_, ?_, ?_⟩
            · (repeat' (first | (with_reducible assumption) | ((with_reducible refine Blk.new ?_); first | rfl | (simp; done)) | (with_reducible refine Blk.later (by assumption) ?_) | (with_reducible refine Blk.alloc ?_) | (with_reducible refine Blk.drewN ?_) | (with_reducible refine Blk.drew ?_) | (with_reducible refine Blk.other ?_ (by first | omega | (simp; done) | (simp; omega)))))
            · (repeat' (first | (with_reducible assumption) | ((with_reducible refine Blk.new ?_); first | rfl | (simp; done)) | (with_reducible refine Blk.later (by assumption) ?_) | (with_reducible refine Blk.alloc ?_) | (with_reducible refine Blk.drewN ?_) | (with_reducible refine Blk.drew ?_) | (with_reducible refine Blk.other ?_ (by first | omega | (simp; done) | (simp; omega)))))
            · (repeat' (first | (with_reducible exact Below.refl _ _) | (with_reducible assumption) | (with_reducible refine belowThru ?_ (by assumption)) | (with_reducible refine belowAlloc ?_) | (with_reducible refine Below.setCell ?_ (by first | omega | (simp; done) | (simp; omega)) _) | (with_reducible refine Below.drew ?_) | (with_reducible refine below_drewN ?_ _)))
            · first | exact fL | (simp; omega)
            · intro h; obtain ⟨p, q⟩ := f14 h; have hne := d14_15 h rfl; exact ⟨by (repeat' (first | (with_reducible assumption) | ((with_reducible refine Blk.new ?_); first | rfl | (simp; done)) | (with_reducible refine Blk.later (by assumption) ?_) | (with_reducible refine Blk.alloc ?_) | (with_reducible refine Blk.drewN ?_) | (with_reducible refine Blk.drew ?_) | (with_reducible refine Blk.other ?_ (by first | omega | (simp; done) | (simp; omega))))), q⟩
            · intro _; exact ⟨by exact Blk.set (Blk.set (p15)), q15⟩
            · exact d14_15
            · exact s14
            · intro _; rfl
          · exfalso; simp at hi1; omega
        case hfin =>
          intro a w9 hI
          obtain ⟨gg0, gg1, gg2, gg3, gg4, gg5, gg6, gg7, gg8, gg9, gg10, gg11, gg12, gg13, gg14, gg15, gg16, gg17, x14, x15, hL, rfl, fb0, fb1, fB, fL, f14, f15, d14_15, s14, s15⟩ := hI
          have hL2 : #[true, true, true, true, true, true, true, true, true, true, true, true, true, true, true, true, true, true] = #[gg0, gg1, gg2, gg3, gg4, gg5, gg6, gg7, gg8, gg9, gg10, gg11, gg12, gg13, gg14, gg15, gg16, gg17] := hL
          cases hL2
          obtain ⟨p14, q14⟩ := f14 rfl
          obtain ⟨p15, q15⟩ := f15 rfl
          have n14_15 := d14_15 rfl rfl
          clear f14 f15 d14_15 s14 s15
          simp only [Act.put, List.setIfInBounds_toArray, List.set_cons_zero, List.set_cons_succ]
          simp only [cond_true]
          go_wp2_with fail
          go_meet
          refine ⟨At2.mk q14 q15 n14_15 p14 p15, fb0, fb1, fB⟩
      case rest =>
        clear HM1 HD HM2 HB HX HY
        obtain ⟨⟨pb, qb, rfl, rfl, g1, g2, hn, k2, k3⟩, k0, k1, hB⟩ := hcut
        obtain ⟨a0, b0⟩ := k0.read; obtain ⟨a1, b1⟩ := k1.read; obtain ⟨a2, b2⟩ := k2.read; obtain ⟨a3, b3⟩ := k3.read
        have zz0 := k0.lt; have zz1 := k1.lt; have zz2 := k2.lt; have zz3 := k3.lt
        rcases hv with ⟨rfl, rfl, rfl⟩ | ⟨hne | ⟨rfl, hne⟩, ⟨rfl, he⟩ | ⟨rfl, rfl⟩⟩
        all_goals
          go_wp2_with (first
            | (go_at_call 119; (with_reducible refine (HL.out _).mono ?_); rintro e w1 ⟨rfl, hb⟩; (try (have zk := k0.lt; (first | ((with_reducible refine Blk.keepG hb k0 (fun h => ?_) ?_); (focus ((repeat' (first | (with_reducible assumption) | ((with_reducible refine Blk.new ?_); first | rfl | (simp; done)) | (with_reducible refine Blk.later (by assumption) ?_) | (with_reducible refine Blk.alloc ?_) | (with_reducible refine Blk.drewN ?_) | (with_reducible refine Blk.drew ?_) | (with_reducible refine Blk.other ?_ (by first | omega | (simp; done) | (simp; omega))))); done)); clear k0; intro k0) | (with_reducible replace k0 := Blk.later hb (Blk.set (Blk.set k0))) | (with_reducible replace k0 := Blk.later hb (Blk.set k0))); clear a0 b0; obtain ⟨a0, b0⟩ := k0.read; have zl := k0.lt)); (try (have zk := k1.lt; (first | ((with_reducible refine Blk.keepG hb k1 (fun h => ?_) ?_); (focus ((repeat' (first | (with_reducible assumption) | ((with_reducible refine Blk.new ?_); first | rfl | (simp; done)) | (with_reducible refine Blk.later (by assumption) ?_) | (with_reducible refine Blk.alloc ?_) | (with_reducible refine Blk.drewN ?_) | (with_reducible refine Blk.drew ?_) | (with_reducible refine Blk.other ?_ (by first | omega | (simp; done) | (simp; omega))))); done)); clear k1; intro k1) | (with_reducible replace k1 := Blk.later hb (Blk.set (Blk.set k1))) | (with_reducible replace k1 := Blk.later hb (Blk.set k1))); clear a1 b1; obtain ⟨a1, b1⟩ := k1.read; have zl := k1.lt)); (try (have zk := k2.lt; (first | ((with_reducible refine Blk.keepG hb k2 (fun h => ?_) ?_); (focus ((repeat' (first | (with_reducible assumption) | ((with_reducible refine Blk.new ?_); first | rfl | (simp; done)) | (with_reducible refine Blk.later (by assumption) ?_) | (with_reducible refine Blk.alloc ?_) | (with_reducible refine Blk.drewN ?_) | (with_reducible refine Blk.drew ?_) | (with_reducible refine Blk.other ?_ (by first | omega | (simp; done) | (simp; omega))))); done)); clear k2; intro k2) | (with_reducible replace k2 := Blk.later hb (Blk.set (Blk.set k2))) | (with_reducible replace k2 := Blk.later hb (Blk.set k2))); clear a2 b2; obtain ⟨a2, b2⟩ := k2.read; have zl := k2.lt)); (try (have zk := k3.lt; (first | ((with_reducible refine Blk.keepG hb k3 (fun h => ?_) ?_); (focus ((repeat' (first | (with_reducible assumption) | ((with_reducible refine Blk.new ?_); first | rfl | (simp; done)) | (with_reducible refine Blk.later (by assumption) ?_) | (with_reducible refine Blk.alloc ?_) | (with_reducible refine Blk.drewN ?_) | (with_reducible refine Blk.drew ?_) | (with_reducible refine Blk.other ?_ (by first | omega | (simp; done) | (simp; omega))))); done)); clear k3; intro k3) | (with_reducible replace k3 := Blk.later hb (Blk.set (Blk.set k3))) | (with_reducible replace k3 := Blk.later hb (Blk.set k3))); clear a3 b3; obtain ⟨a3, b3⟩ := k3.read; have zl := k3.lt)))
            | (go_at_call 116; (with_reducible refine (HS1.out _).mono ?_); rintro e w1 ⟨rfl, rfl⟩))
          go_ret
          exact ⟨rfl, by (repeat' (first | (with_reducible exact Below.refl _ _) | (with_reducible assumption) | (with_reducible refine belowThru ?_ (by assumption)) | (with_reducible refine belowAlloc ?_) | (with_reducible refine Below.setCell ?_ (by first | omega | (simp; done) | (simp; omega)) _) | (with_reducible refine Below.drew ?_) | (with_reducible refine below_drewN ?_ _)))⟩

end Go.Proofs.Ytdimmnoflenfhaa
/-
  The document's own answers, layer 1: products and quotients of fractions.
-/
namespace Go.Proofs.Ytdimmnoflenfhaa
open Go.RowKit

/-- What holds of the region whichever operations have come up. -/
def RTimesI (a b c d s t y m1 m2 m3 m4 X1 X0 Y1 Y0 A B : Int) (ok : Bool) (w : World) (i6 i7 i8 i9 i10 i11 i12 i13 i14 i15 i16 i17 i18 i19 i20 i21 i22 i23 i24 i25 i26 i27 i28 i29 i5 : Value) (b9 : Act) (L9 : Array Bool) (a9 : Act) (w9 : World) : Prop :=
  ∃ (gg0 gg1 gg2 gg3 gg4 gg5 gg6 gg7 gg8 gg9 gg10 gg11 gg12 gg13 gg14 gg15 gg16 gg17 gg18 gg19 gg20 gg21 gg22 gg23 gg24 gg25 : Bool), L9 = #[gg0, gg1, gg2, gg3, gg4, gg5, gg6, gg7, gg8, gg9, gg10, gg11, gg12, gg13, gg14, gg15, gg16, gg17, gg18, gg19, gg20, gg21, gg22, gg23, gg24, gg25] ∧ a9 = (((((((((((((((((((((((((b9).put (some 6) (cond gg0 (.pointer (some ⟨w.heap.size, 0, none⟩)) (i6))).put (some 7) (cond gg1 (.int .i64 a) (i7))).put (some 8) (cond gg2 (.int .i64 s) (i8))).put (some 9) (cond gg3 (.pointer (some ⟨(w.heap.size + 1), 0, none⟩)) (i9))).put (some 10) (cond gg4 (.int .i64 c) (i10))).put (some 11) (cond gg5 (.int .i64 t) (i11))).put (some 12) (cond gg6 (.int .i64 y) (i12))).put (some 13) (cond gg7 (.pointer (some ⟨w.heap.size, 0, none⟩)) (i13))).put (some 14) (cond gg8 (.int .i64 a) (i14))).put (some 15) (cond gg9 (.int .u64 m1) (i15))).put (some 16) (cond gg10 (.pointer (some ⟨(w.heap.size + 1), 0, none⟩)) (i16))).put (some 17) (cond gg11 (.int .i64 c) (i17))).put (some 18) (cond gg12 (.int .u64 m2) (i18))).put (some 19) (cond gg13 (.agg #[.int .u64 X1, .int .u64 X0]) (i19))).put (some 20) (cond gg14 (.pointer (some ⟨w.heap.size, 1, none⟩)) (i20))).put (some 21) (cond gg15 (.int .i64 b) (i21))).put (some 22) (cond gg16 (.int .u64 m3) (i22))).put (some 23) (cond gg17 (.pointer (some ⟨(w.heap.size + 1), 1, none⟩)) (i23))).put (some 24) (cond gg18 (.int .i64 d) (i24))).put (some 25) (cond gg19 (.int .u64 m4) (i25))).put (some 26) (cond gg20 (.agg #[.int .u64 Y1, .int .u64 Y0]) (i26))).put (some 27) (cond gg21 (.tuple #[.agg #[.int .i64 A, .int .i64 B], .bool ok]) (i27))).put (some 28) (cond gg22 (.agg #[.int .i64 A, .int .i64 B]) (i28))).put (some 29) (cond gg23 (.bool ok) (i29))).put (some 5) (cond gg25 (.bool ok) (i5)) ∧ Blk w9 w.heap.size #[.int .i64 a, .int .i64 b] 23 ∧ Blk w9 (w.heap.size + 1) #[.int .i64 c, .int .i64 d] 23 ∧ Blk w9 (w.heap.size + 1 + 1) (cond gg24 #[.int .i64 A, .int .i64 B] #[.int .i64 0, .int .i64 0]) 23 ∧ Below w.heap.size w w9 ∧ (w.heap.size + 1 + 1 + 1) ≤ w9.heap.size

set_option maxRecDepth 100000 in
set_option maxHeartbeats 8000000 in
set_option linter.unusedSimpArgs false in
theorem rtimes_walk (a b c d s t y m1 m2 m3 m4 X1 X0 Y1 Y0 A B : Int) (ok : Bool) (w : World) (hy : IntKind.i64.wrap (s * t) = y)
    (HS1 : Hid (∀ w, Calls Try.prog 116 #[.int .i64 a] w fun e w' => e = .returned (.int .i64 s) ∧ w = w'))
    (HS2 : Hid (∀ w, Calls Try.prog 116 #[.int .i64 c] w fun e w' => e = .returned (.int .i64 t) ∧ w = w'))
    (HM1 : Hid (∀ w, Calls Try.prog 115 #[.int .i64 a] w fun e w' => e = .returned (.int .u64 m1) ∧ w = w'))
    (HM2 : Hid (∀ w, Calls Try.prog 115 #[.int .i64 c] w fun e w' => e = .returned (.int .u64 m2) ∧ w = w'))
    (HM3 : Hid (∀ w, Calls Try.prog 115 #[.int .i64 b] w fun e w' => e = .returned (.int .u64 m3) ∧ w = w'))
    (HM4 : Hid (∀ w, Calls Try.prog 115 #[.int .i64 d] w fun e w' => e = .returned (.int .u64 m4) ∧ w = w'))
    (HX : Hid (∀ w, Calls Try.prog 114 #[.int .u64 m1, .int .u64 m2] w fun e w' => e = .returned (.agg #[.int .u64 X1, .int .u64 X0]) ∧ Below w.heap.size w w'))
    (HY : Hid (∀ w, Calls Try.prog 114 #[.int .u64 m3, .int .u64 m4] w fun e w' => e = .returned (.agg #[.int .u64 Y1, .int .u64 Y0]) ∧ Below w.heap.size w w'))
    (HL : Hid (∀ w, Calls Try.prog 117 #[.int .i64 y, .agg #[.int .u64 X1, .int .u64 X0], .agg #[.int .u64 Y1, .int .u64 Y0]] w fun e w' => e = .returned (.tuple #[.agg #[.int .i64 A, .int .i64 B], .bool ok]) ∧ Below w.heap.size w w')) :
    Calls Try.prog 97 #[.agg #[.int .i64 a, .int .i64 b], .agg #[.int .i64 c, .int .i64 d]] w fun e w' => e = .returned (.tuple #[.agg #[.int .i64 A, .int .i64 B], .bool ok]) ∧ Below w.heap.size w w' := by
  go_enter Try.func97, Try.ntmps97
  go_upto_region 1 with fail
  refine wp_region_inv (RTimesI a b c d s t y m1 m2 m3 m4 X1 X0 Y1 Y0 A B ok w ?i6 ?i7 ?i8 ?i9 ?i10 ?i11 ?i12 ?i13 ?i14 ?i15 ?i16 ?i17 ?i18 ?i19 ?i20 ?i21 ?i22 ?i23 ?i24 ?i25 ?i26 ?i27 ?i28 ?i29 ?i5) (by kernel_rfl) (by kernel_rfl) ?hsz ?hst ?hstep ?hfin
  case hst =>
    unfold RTimesI
    refine ⟨false, false, false, false, false, false, false, false, false, false, false, false, false, false, false, false, false, false, false, false, false, false, false, false, false, false, rfl, ?_, ?_, ?_, ?_, ?_, ?_⟩
    · first | (simp only [Act.put, List.setIfInBounds_toArray, List.set_cons_zero, List.set_cons_succ, cond_false]; done) | (simp only [Act.put, List.setIfInBounds_toArray, List.set_cons_zero, List.set_cons_succ, cond_false]; rfl)
    all_goals (first | (intro h; cases h; done) | ((repeat' (first | (with_reducible assumption) | ((with_reducible refine Blk.new ?_); first | rfl | (simp; done)) | (with_reducible refine Blk.later (by assumption) ?_) | (with_reducible refine Blk.alloc ?_) | (with_reducible refine Blk.drewN ?_) | (with_reducible refine Blk.drew ?_) | (with_reducible refine Blk.other ?_ (by first | omega | (simp; done) | (simp; omega))))); done) | ((repeat' (first | (with_reducible exact Below.refl _ _) | (with_reducible assumption) | (with_reducible refine belowThru ?_ (by assumption)) | (with_reducible refine belowAlloc ?_) | (with_reducible refine Below.setCell ?_ (by first | omega | (simp; done) | (simp; omega)) _) | (with_reducible refine Below.drew ?_) | (with_reducible refine below_drewN ?_ _))); done) | (simp only [cond_false]; (repeat' (first | (with_reducible assumption) | ((with_reducible refine Blk.new ?_); first | rfl | (simp; done)) | (with_reducible refine Blk.later (by assumption) ?_) | (with_reducible refine Blk.alloc ?_) | (with_reducible refine Blk.drewN ?_) | (with_reducible refine Blk.drew ?_) | (with_reducible refine Blk.other ?_ (by first | omega | (simp; done) | (simp; omega))))); done) | (simp only [World.size_drew]; omega) | (simp only [World.size_drew] at *; omega) | (simp; done) | (simp; omega))
  case hsz =>
    intro L a w9 h
    obtain ⟨gg0, gg1, gg2, gg3, gg4, gg5, gg6, gg7, gg8, gg9, gg10, gg11, gg12, gg13, gg14, gg15, gg16, gg17, gg18, gg19, gg20, gg21, gg22, gg23, gg24, gg25, rfl, -⟩ := h; rfl
  case hstep =>
    intro L a w9 hI i hi
    obtain ⟨gg0, gg1, gg2, gg3, gg4, gg5, gg6, gg7, gg8, gg9, gg10, gg11, gg12, gg13, gg14, gg15, gg16, gg17, gg18, gg19, gg20, gg21, gg22, gg23, gg24, gg25, rfl, rfl, fb0, fb1, fb2, fB, fL⟩ := hI
    obtain ⟨hi1, hi2, o, ho, hall⟩ := inv_mem hi
    clear hi
    rcases i with _ | _ | _ | _ | _ | _ | _ | _ | _ | _ | _ | _ | _ | _ | _ | _ | _ | _ | _ | _ | _ | _ | _ | _ | _ | _ | i
    · have ge0 : gg0 = false := hi2
      clear hall hi1 hi2
      subst ge0
      have ho2 := ho
      simp only [List.getElem?_toArray, List.getElem?_cons_zero, List.getElem?_cons_succ] at ho2
      have ho3 := Option.some.inj ho2; clear ho2; subst ho3
      obtain ⟨ba0, bb0⟩ := fb0.read; have bl0 := fb0.lt
      obtain ⟨ba1, bb1⟩ := fb1.read; have bl1 := fb1.lt
      simp only [Act.put, List.setIfInBounds_toArray, List.set_cons_zero, List.set_cons_succ]
      simp only [cond_true, cond_false]
      refine inv_op ho (by kernel_rfl) (fun K hK => ?_)
      clear ho
      go_simp
      refine hK.out _ _ ?_
      unfold RTimesI
      refine ⟨true, gg1, gg2, gg3, gg4, gg5, gg6, gg7, gg8, gg9, gg10, gg11, gg12, gg13, gg14, gg15, gg16, gg17, gg18, gg19, gg20, gg21, gg22, gg23, gg24, gg25, rfl, by simp only [Act.put, List.setIfInBounds_toArray, List.set_cons_zero, List.set_cons_succ, cond_true, cond_false], ?_, ?_, ?_, ?_, ?_⟩
      · exact fb0
      · exact fb1
      · exact fb2
      · exact fB
      · exact fL
    · have ge1 : gg1 = false := hi2
      have ge0 : gg0 = true := inv_dep ho hall 0 (by kernel_rfl)
      clear hall hi1 hi2
      subst ge1 ge0
      have ho2 := ho
      simp only [List.getElem?_toArray, List.getElem?_cons_zero, List.getElem?_cons_succ] at ho2
      have ho3 := Option.some.inj ho2; clear ho2; subst ho3
      obtain ⟨ba0, bb0⟩ := fb0.read; have bl0 := fb0.lt
      obtain ⟨ba1, bb1⟩ := fb1.read; have bl1 := fb1.lt
      simp only [Act.put, List.setIfInBounds_toArray, List.set_cons_zero, List.set_cons_succ]
      simp only [cond_true, cond_false]
      refine inv_op ho (by kernel_rfl) (fun K hK => ?_)
      clear ho
      go_simp
      refine hK.out _ _ ?_
      unfold RTimesI
      refine ⟨true, true, gg2, gg3, gg4, gg5, gg6, gg7, gg8, gg9, gg10, gg11, gg12, gg13, gg14, gg15, gg16, gg17, gg18, gg19, gg20, gg21, gg22, gg23, gg24, gg25, rfl, by simp only [Act.put, List.setIfInBounds_toArray, List.set_cons_zero, List.set_cons_succ, cond_true, cond_false], ?_, ?_, ?_, ?_, ?_⟩
      · exact fb0
      · exact fb1
      · exact fb2
      · exact fB
      · exact fL
    · have ge2 : gg2 = false := hi2
      have ge1 : gg1 = true := inv_dep ho hall 1 (by kernel_rfl)
      clear hall hi1 hi2
      subst ge2 ge1
      have ho2 := ho
      simp only [List.getElem?_toArray, List.getElem?_cons_zero, List.getElem?_cons_succ] at ho2
      have ho3 := Option.some.inj ho2; clear ho2; subst ho3
      obtain ⟨ba0, bb0⟩ := fb0.read; have bl0 := fb0.lt
      obtain ⟨ba1, bb1⟩ := fb1.read; have bl1 := fb1.lt
      simp only [Act.put, List.setIfInBounds_toArray, List.set_cons_zero, List.set_cons_succ]
      simp only [cond_true, cond_false]
      refine inv_op ho (by kernel_rfl) (fun K hK => ?_)
      clear ho
      go_simp
      go_at_call 116; (with_reducible refine (HS1.out _).mono ?_); rintro e w1 ⟨rfl, rfl⟩
      refine hK.out _ _ ?_
      unfold RTimesI
      refine ⟨gg0, true, true, gg3, gg4, gg5, gg6, gg7, gg8, gg9, gg10, gg11, gg12, gg13, gg14, gg15, gg16, gg17, gg18, gg19, gg20, gg21, gg22, gg23, gg24, gg25, rfl, by simp only [Act.put, List.setIfInBounds_toArray, List.set_cons_zero, List.set_cons_succ, cond_true, cond_false], ?_, ?_, ?_, ?_, ?_⟩
      · exact fb0
      · exact fb1
      · exact fb2
      · exact fB
      · exact fL
    · have ge3 : gg3 = false := hi2
      clear hall hi1 hi2
      subst ge3
      have ho2 := ho
      simp only [List.getElem?_toArray, List.getElem?_cons_zero, List.getElem?_cons_succ] at ho2
      have ho3 := Option.some.inj ho2; clear ho2; subst ho3
      obtain ⟨ba0, bb0⟩ := fb0.read; have bl0 := fb0.lt
      obtain ⟨ba1, bb1⟩ := fb1.read; have bl1 := fb1.lt
      simp only [Act.put, List.setIfInBounds_toArray, List.set_cons_zero, List.set_cons_succ]
      simp only [cond_true, cond_false]
      refine inv_op ho (by kernel_rfl) (fun K hK => ?_)
      clear ho
      go_simp
      refine hK.out _ _ ?_
      unfold RTimesI
      refine ⟨gg0, gg1, gg2, true, gg4, gg5, gg6, gg7, gg8, gg9, gg10, gg11, gg12, gg13, gg14, gg15, gg16, gg17, gg18, gg19, gg20, gg21, gg22, gg23, gg24, gg25, rfl, by simp only [Act.put, List.setIfInBounds_toArray, List.set_cons_zero, List.set_cons_succ, cond_true, cond_false], ?_, ?_, ?_, ?_, ?_⟩
      · exact fb0
      · exact fb1
      · exact fb2
      · exact fB
      · exact fL
    · have ge4 : gg4 = false := hi2
      have ge3 : gg3 = true := inv_dep ho hall 3 (by kernel_rfl)
      clear hall hi1 hi2
      subst ge4 ge3
      have ho2 := ho
      simp only [List.getElem?_toArray, List.getElem?_cons_zero, List.getElem?_cons_succ] at ho2
      have ho3 := Option.some.inj ho2; clear ho2; subst ho3
      obtain ⟨ba0, bb0⟩ := fb0.read; have bl0 := fb0.lt
      obtain ⟨ba1, bb1⟩ := fb1.read; have bl1 := fb1.lt
      simp only [Act.put, List.setIfInBounds_toArray, List.set_cons_zero, List.set_cons_succ]
      simp only [cond_true, cond_false]
      refine inv_op ho (by kernel_rfl) (fun K hK => ?_)
      clear ho
      go_simp
      refine hK.out _ _ ?_
      unfold RTimesI
      refine ⟨gg0, gg1, gg2, true, true, gg5, gg6, gg7, gg8, gg9, gg10, gg11, gg12, gg13, gg14, gg15, gg16, gg17, gg18, gg19, gg20, gg21, gg22, gg23, gg24, gg25, rfl, by simp only [Act.put, List.setIfInBounds_toArray, List.set_cons_zero, List.set_cons_succ, cond_true, cond_false], ?_, ?_, ?_, ?_, ?_⟩
      · exact fb0
      · exact fb1
      · exact fb2
      · exact fB
      · exact fL
    · have ge5 : gg5 = false := hi2
      have ge4 : gg4 = true := inv_dep ho hall 4 (by kernel_rfl)
      clear hall hi1 hi2
      subst ge5 ge4
      have ho2 := ho
      simp only [List.getElem?_toArray, List.getElem?_cons_zero, List.getElem?_cons_succ] at ho2
      have ho3 := Option.some.inj ho2; clear ho2; subst ho3
      obtain ⟨ba0, bb0⟩ := fb0.read; have bl0 := fb0.lt
      obtain ⟨ba1, bb1⟩ := fb1.read; have bl1 := fb1.lt
      simp only [Act.put, List.setIfInBounds_toArray, List.set_cons_zero, List.set_cons_succ]
      simp only [cond_true, cond_false]
      refine inv_op ho (by kernel_rfl) (fun K hK => ?_)
      clear ho
      go_simp
      go_at_call 116; (with_reducible refine (HS2.out _).mono ?_); rintro e w1 ⟨rfl, rfl⟩
      refine hK.out _ _ ?_
      unfold RTimesI
      refine ⟨gg0, gg1, gg2, gg3, true, true, gg6, gg7, gg8, gg9, gg10, gg11, gg12, gg13, gg14, gg15, gg16, gg17, gg18, gg19, gg20, gg21, gg22, gg23, gg24, gg25, rfl, by simp only [Act.put, List.setIfInBounds_toArray, List.set_cons_zero, List.set_cons_succ, cond_true, cond_false], ?_, ?_, ?_, ?_, ?_⟩
      · exact fb0
      · exact fb1
      · exact fb2
      · exact fB
      · exact fL
    · have ge6 : gg6 = false := hi2
      have ge2 : gg2 = true := inv_dep ho hall 2 (by kernel_rfl)
      have ge5 : gg5 = true := inv_dep ho hall 5 (by kernel_rfl)
      clear hall hi1 hi2
      subst ge6 ge2 ge5
      have ho2 := ho
      simp only [List.getElem?_toArray, List.getElem?_cons_zero, List.getElem?_cons_succ] at ho2
      have ho3 := Option.some.inj ho2; clear ho2; subst ho3
      obtain ⟨ba0, bb0⟩ := fb0.read; have bl0 := fb0.lt
      obtain ⟨ba1, bb1⟩ := fb1.read; have bl1 := fb1.lt
      simp only [Act.put, List.setIfInBounds_toArray, List.set_cons_zero, List.set_cons_succ]
      simp only [cond_true, cond_false]
      refine inv_op ho (by kernel_rfl) (fun K hK => ?_)
      clear ho
      go_simp
      refine hK.out _ _ ?_
      unfold RTimesI
      refine ⟨gg0, gg1, true, gg3, gg4, true, true, gg7, gg8, gg9, gg10, gg11, gg12, gg13, gg14, gg15, gg16, gg17, gg18, gg19, gg20, gg21, gg22, gg23, gg24, gg25, rfl, by simp only [Act.put, List.setIfInBounds_toArray, List.set_cons_zero, List.set_cons_succ, cond_true, cond_false], ?_, ?_, ?_, ?_, ?_⟩
      · exact fb0
      · exact fb1
      · exact fb2
      · exact fB
      · exact fL
    · have ge7 : gg7 = false := hi2
      clear hall hi1 hi2
      subst ge7
      have ho2 := ho
      simp only [List.getElem?_toArray, List.getElem?_cons_zero, List.getElem?_cons_succ] at ho2
      have ho3 := Option.some.inj ho2; clear ho2; subst ho3
      obtain ⟨ba0, bb0⟩ := fb0.read; have bl0 := fb0.lt
      obtain ⟨ba1, bb1⟩ := fb1.read; have bl1 := fb1.lt
      simp only [Act.put, List.setIfInBounds_toArray, List.set_cons_zero, List.set_cons_succ]
      simp only [cond_true, cond_false]
      refine inv_op ho (by kernel_rfl) (fun K hK => ?_)
      clear ho
      go_simp
      refine hK.out _ _ ?_
      unfold RTimesI
      refine ⟨gg0, gg1, gg2, gg3, gg4, gg5, gg6, true, gg8, gg9, gg10, gg11, gg12, gg13, gg14, gg15, gg16, gg17, gg18, gg19, gg20, gg21, gg22, gg23, gg24, gg25, rfl, by simp only [Act.put, List.setIfInBounds_toArray, List.set_cons_zero, List.set_cons_succ, cond_true, cond_false], ?_, ?_, ?_, ?_, ?_⟩
      · exact fb0
      · exact fb1
      · exact fb2
      · exact fB
      · exact fL
    · have ge8 : gg8 = false := hi2
      have ge7 : gg7 = true := inv_dep ho hall 7 (by kernel_rfl)
      clear hall hi1 hi2
      subst ge8 ge7
      have ho2 := ho
      simp only [List.getElem?_toArray, List.getElem?_cons_zero, List.getElem?_cons_succ] at ho2
      have ho3 := Option.some.inj ho2; clear ho2; subst ho3
      obtain ⟨ba0, bb0⟩ := fb0.read; have bl0 := fb0.lt
      obtain ⟨ba1, bb1⟩ := fb1.read; have bl1 := fb1.lt
      simp only [Act.put, List.setIfInBounds_toArray, List.set_cons_zero, List.set_cons_succ]
      simp only [cond_true, cond_false]
      refine inv_op ho (by kernel_rfl) (fun K hK => ?_)
      clear ho
      go_simp
      refine hK.out _ _ ?_
      unfold RTimesI
      refine ⟨gg0, gg1, gg2, gg3, gg4, gg5, gg6, true, true, gg9, gg10, gg11, gg12, gg13, gg14, gg15, gg16, gg17, gg18, gg19, gg20, gg21, gg22, gg23, gg24, gg25, rfl, by simp only [Act.put, List.setIfInBounds_toArray, List.set_cons_zero, List.set_cons_succ, cond_true, cond_false], ?_, ?_, ?_, ?_, ?_⟩
      · exact fb0
      · exact fb1
      · exact fb2
      · exact fB
      · exact fL
    · have ge9 : gg9 = false := hi2
      have ge8 : gg8 = true := inv_dep ho hall 8 (by kernel_rfl)
      clear hall hi1 hi2
      subst ge9 ge8
      have ho2 := ho
      simp only [List.getElem?_toArray, List.getElem?_cons_zero, List.getElem?_cons_succ] at ho2
      have ho3 := Option.some.inj ho2; clear ho2; subst ho3
      obtain ⟨ba0, bb0⟩ := fb0.read; have bl0 := fb0.lt
      obtain ⟨ba1, bb1⟩ := fb1.read; have bl1 := fb1.lt
      simp only [Act.put, List.setIfInBounds_toArray, List.set_cons_zero, List.set_cons_succ]
      simp only [cond_true, cond_false]
      refine inv_op ho (by kernel_rfl) (fun K hK => ?_)
      clear ho
      go_simp
      go_at_call 115; (with_reducible refine (HM1.out _).mono ?_); rintro e w1 ⟨rfl, rfl⟩
      refine hK.out _ _ ?_
      unfold RTimesI
      refine ⟨gg0, gg1, gg2, gg3, gg4, gg5, gg6, gg7, true, true, gg10, gg11, gg12, gg13, gg14, gg15, gg16, gg17, gg18, gg19, gg20, gg21, gg22, gg23, gg24, gg25, rfl, by simp only [Act.put, List.setIfInBounds_toArray, List.set_cons_zero, List.set_cons_succ, cond_true, cond_false], ?_, ?_, ?_, ?_, ?_⟩
      · exact fb0
      · exact fb1
      · exact fb2
      · exact fB
      · exact fL
    · have ge10 : gg10 = false := hi2
      clear hall hi1 hi2
      subst ge10
      have ho2 := ho
      simp only [List.getElem?_toArray, List.getElem?_cons_zero, List.getElem?_cons_succ] at ho2
      have ho3 := Option.some.inj ho2; clear ho2; subst ho3
      obtain ⟨ba0, bb0⟩ := fb0.read; have bl0 := fb0.lt
      obtain ⟨ba1, bb1⟩ := fb1.read; have bl1 := fb1.lt
      simp only [Act.put, List.setIfInBounds_toArray, List.set_cons_zero, List.set_cons_succ]
      simp only [cond_true, cond_false]
      refine inv_op ho (by kernel_rfl) (fun K hK => ?_)
      clear ho
      go_simp
      refine hK.out _ _ ?_
      unfold RTimesI
      refine ⟨gg0, gg1, gg2, gg3, gg4, gg5, gg6, gg7, gg8, gg9, true, gg11, gg12, gg13, gg14, gg15, gg16, gg17, gg18, gg19, gg20, gg21, gg22, gg23, gg24, gg25, rfl, by simp only [Act.put, List.setIfInBounds_toArray, List.set_cons_zero, List.set_cons_succ, cond_true, cond_false], ?_, ?_, ?_, ?_, ?_⟩
      · exact fb0
      · exact fb1
      · exact fb2
      · exact fB
      · exact fL
    · have ge11 : gg11 = false := hi2
      have ge10 : gg10 = true := inv_dep ho hall 10 (by kernel_rfl)
      clear hall hi1 hi2
      subst ge11 ge10
      have ho2 := ho
      simp only [List.getElem?_toArray, List.getElem?_cons_zero, List.getElem?_cons_succ] at ho2
      have ho3 := Option.some.inj ho2; clear ho2; subst ho3
      obtain ⟨ba0, bb0⟩ := fb0.read; have bl0 := fb0.lt
      obtain ⟨ba1, bb1⟩ := fb1.read; have bl1 := fb1.lt
      simp only [Act.put, List.setIfInBounds_toArray, List.set_cons_zero, List.set_cons_succ]
      simp only [cond_true, cond_false]
      refine inv_op ho (by kernel_rfl) (fun K hK => ?_)
      clear ho
      go_simp
      refine hK.out _ _ ?_
      unfold RTimesI
      refine ⟨gg0, gg1, gg2, gg3, gg4, gg5, gg6, gg7, gg8, gg9, true, true, gg12, gg13, gg14, gg15, gg16, gg17, gg18, gg19, gg20, gg21, gg22, gg23, gg24, gg25, rfl, by simp only [Act.put, List.setIfInBounds_toArray, List.set_cons_zero, List.set_cons_succ, cond_true, cond_false], ?_, ?_, ?_, ?_, ?_⟩
      · exact fb0
      · exact fb1
      · exact fb2
      · exact fB
      · exact fL
    · have ge12 : gg12 = false := hi2
      have ge11 : gg11 = true := inv_dep ho hall 11 (by kernel_rfl)
      clear hall hi1 hi2
      subst ge12 ge11
      have ho2 := ho
      simp only [List.getElem?_toArray, List.getElem?_cons_zero, List.getElem?_cons_succ] at ho2
      have ho3 := Option.some.inj ho2; clear ho2; subst ho3
      obtain ⟨ba0, bb0⟩ := fb0.read; have bl0 := fb0.lt
      obtain ⟨ba1, bb1⟩ := fb1.read; have bl1 := fb1.lt
      simp only [Act.put, List.setIfInBounds_toArray, List.set_cons_zero, List.set_cons_succ]
      simp only [cond_true, cond_false]
      refine inv_op ho (by kernel_rfl) (fun K hK => ?_)
      clear ho
      go_simp
      go_at_call 115; (with_reducible refine (HM2.out _).mono ?_); rintro e w1 ⟨rfl, rfl⟩
      refine hK.out _ _ ?_
      unfold RTimesI
      refine ⟨gg0, gg1, gg2, gg3, gg4, gg5, gg6, gg7, gg8, gg9, gg10, true, true, gg13, gg14, gg15, gg16, gg17, gg18, gg19, gg20, gg21, gg22, gg23, gg24, gg25, rfl, by simp only [Act.put, List.setIfInBounds_toArray, List.set_cons_zero, List.set_cons_succ, cond_true, cond_false], ?_, ?_, ?_, ?_, ?_⟩
      · exact fb0
      · exact fb1
      · exact fb2
      · exact fB
      · exact fL
    · have ge13 : gg13 = false := hi2
      have ge9 : gg9 = true := inv_dep ho hall 9 (by kernel_rfl)
      have ge12 : gg12 = true := inv_dep ho hall 12 (by kernel_rfl)
      clear hall hi1 hi2
      subst ge13 ge9 ge12
      have ho2 := ho
      simp only [List.getElem?_toArray, List.getElem?_cons_zero, List.getElem?_cons_succ] at ho2
      have ho3 := Option.some.inj ho2; clear ho2; subst ho3
      obtain ⟨ba0, bb0⟩ := fb0.read; have bl0 := fb0.lt
      obtain ⟨ba1, bb1⟩ := fb1.read; have bl1 := fb1.lt
      simp only [Act.put, List.setIfInBounds_toArray, List.set_cons_zero, List.set_cons_succ]
      simp only [cond_true, cond_false]
      refine inv_op ho (by kernel_rfl) (fun K hK => ?_)
      clear ho
      go_simp
      go_at_call 114; (with_reducible refine (HX.out _).mono ?_); rintro e w1 ⟨rfl, hb⟩
      refine hK.out _ _ ?_
      unfold RTimesI
      refine ⟨gg0, gg1, gg2, gg3, gg4, gg5, gg6, gg7, gg8, true, gg10, gg11, true, true, gg14, gg15, gg16, gg17, gg18, gg19, gg20, gg21, gg22, gg23, gg24, gg25, rfl, by simp only [Act.put, List.setIfInBounds_toArray, List.set_cons_zero, List.set_cons_succ, cond_true, cond_false], ?_, ?_, ?_, ?_, ?_⟩
      · exact Blk.later hb fb0
      · exact Blk.later hb fb1
      · exact Blk.later hb fb2
      · exact belowThru fB hb
      · have := hb.size; omega
    · have ge14 : gg14 = false := hi2
      clear hall hi1 hi2
      subst ge14
      have ho2 := ho
      simp only [List.getElem?_toArray, List.getElem?_cons_zero, List.getElem?_cons_succ] at ho2
      have ho3 := Option.some.inj ho2; clear ho2; subst ho3
      obtain ⟨ba0, bb0⟩ := fb0.read; have bl0 := fb0.lt
      obtain ⟨ba1, bb1⟩ := fb1.read; have bl1 := fb1.lt
      simp only [Act.put, List.setIfInBounds_toArray, List.set_cons_zero, List.set_cons_succ]
      simp only [cond_true, cond_false]
      refine inv_op ho (by kernel_rfl) (fun K hK => ?_)
      clear ho
      go_simp
      refine hK.out _ _ ?_
      unfold RTimesI
      refine ⟨gg0, gg1, gg2, gg3, gg4, gg5, gg6, gg7, gg8, gg9, gg10, gg11, gg12, gg13, true, gg15, gg16, gg17, gg18, gg19, gg20, gg21, gg22, gg23, gg24, gg25, rfl, by simp only [Act.put, List.setIfInBounds_toArray, List.set_cons_zero, List.set_cons_succ, cond_true, cond_false], ?_, ?_, ?_, ?_, ?_⟩
      · exact fb0
      · exact fb1
      · exact fb2
      · exact fB
      · exact fL
    · have ge15 : gg15 = false := hi2
      have ge14 : gg14 = true := inv_dep ho hall 14 (by kernel_rfl)
      clear hall hi1 hi2
      subst ge15 ge14
      have ho2 := ho
      simp only [List.getElem?_toArray, List.getElem?_cons_zero, List.getElem?_cons_succ] at ho2
      have ho3 := Option.some.inj ho2; clear ho2; subst ho3
      obtain ⟨ba0, bb0⟩ := fb0.read; have bl0 := fb0.lt
      obtain ⟨ba1, bb1⟩ := fb1.read; have bl1 := fb1.lt
      simp only [Act.put, List.setIfInBounds_toArray, List.set_cons_zero, List.set_cons_succ]
      simp only [cond_true, cond_false]
      refine inv_op ho (by kernel_rfl) (fun K hK => ?_)
      clear ho
      go_simp
      refine hK.out _ _ ?_
      unfold RTimesI
      refine ⟨gg0, gg1, gg2, gg3, gg4, gg5, gg6, gg7, gg8, gg9, gg10, gg11, gg12, gg13, true, true, gg16, gg17, gg18, gg19, gg20, gg21, gg22, gg23, gg24, gg25, rfl, by simp only [Act.put, List.setIfInBounds_toArray, List.set_cons_zero, List.set_cons_succ, cond_true, cond_false], ?_, ?_, ?_, ?_, ?_⟩
      · exact fb0
      · exact fb1
      · exact fb2
      · exact fB
      · exact fL
    · have ge16 : gg16 = false := hi2
      have ge15 : gg15 = true := inv_dep ho hall 15 (by kernel_rfl)
      clear hall hi1 hi2
      subst ge16 ge15
      have ho2 := ho
      simp only [List.getElem?_toArray, List.getElem?_cons_zero, List.getElem?_cons_succ] at ho2
      have ho3 := Option.some.inj ho2; clear ho2; subst ho3
      obtain ⟨ba0, bb0⟩ := fb0.read; have bl0 := fb0.lt
      obtain ⟨ba1, bb1⟩ := fb1.read; have bl1 := fb1.lt
      simp only [Act.put, List.setIfInBounds_toArray, List.set_cons_zero, List.set_cons_succ]
      simp only [cond_true, cond_false]
      refine inv_op ho (by kernel_rfl) (fun K hK => ?_)
      clear ho
      go_simp
      go_at_call 115; (with_reducible refine (HM3.out _).mono ?_); rintro e w1 ⟨rfl, rfl⟩
      refine hK.out _ _ ?_
      unfold RTimesI
      refine ⟨gg0, gg1, gg2, gg3, gg4, gg5, gg6, gg7, gg8, gg9, gg10, gg11, gg12, gg13, gg14, true, true, gg17, gg18, gg19, gg20, gg21, gg22, gg23, gg24, gg25, rfl, by simp only [Act.put, List.setIfInBounds_toArray, List.set_cons_zero, List.set_cons_succ, cond_true, cond_false], ?_, ?_, ?_, ?_, ?_⟩
      · exact fb0
      · exact fb1
      · exact fb2
      · exact fB
      · exact fL
    · have ge17 : gg17 = false := hi2
      clear hall hi1 hi2
      subst ge17
      have ho2 := ho
      simp only [List.getElem?_toArray, List.getElem?_cons_zero, List.getElem?_cons_succ] at ho2
      have ho3 := Option.some.inj ho2; clear ho2; subst ho3
      obtain ⟨ba0, bb0⟩ := fb0.read; have bl0 := fb0.lt
      obtain ⟨ba1, bb1⟩ := fb1.read; have bl1 := fb1.lt
      simp only [Act.put, List.setIfInBounds_toArray, List.set_cons_zero, List.set_cons_succ]
      simp only [cond_true, cond_false]
      refine inv_op ho (by kernel_rfl) (fun K hK => ?_)
      clear ho
      go_simp
      refine hK.out _ _ ?_
      unfold RTimesI
      refine ⟨gg0, gg1, gg2, gg3, gg4, gg5, gg6, gg7, gg8, gg9, gg10, gg11, gg12, gg13, gg14, gg15, gg16, true, gg18, gg19, gg20, gg21, gg22, gg23, gg24, gg25, rfl, by simp only [Act.put, List.setIfInBounds_toArray, List.set_cons_zero, List.set_cons_succ, cond_true, cond_false], ?_, ?_, ?_, ?_, ?_⟩
      · exact fb0
      · exact fb1
      · exact fb2
      · exact fB
      · exact fL
    · have ge18 : gg18 = false := hi2
      have ge17 : gg17 = true := inv_dep ho hall 17 (by kernel_rfl)
      clear hall hi1 hi2
      subst ge18 ge17
      have ho2 := ho
      simp only [List.getElem?_toArray, List.getElem?_cons_zero, List.getElem?_cons_succ] at ho2
      have ho3 := Option.some.inj ho2; clear ho2; subst ho3
      obtain ⟨ba0, bb0⟩ := fb0.read; have bl0 := fb0.lt
      obtain ⟨ba1, bb1⟩ := fb1.read; have bl1 := fb1.lt
      simp only [Act.put, List.setIfInBounds_toArray, List.set_cons_zero, List.set_cons_succ]
      simp only [cond_true, cond_false]
      refine inv_op ho (by kernel_rfl) (fun K hK => ?_)
      clear ho
      go_simp
      refine hK.out _ _ ?_
      unfold RTimesI
      refine ⟨gg0, gg1, gg2, gg3, gg4, gg5, gg6, gg7, gg8, gg9, gg10, gg11, gg12, gg13, gg14, gg15, gg16, true, true, gg19, gg20, gg21, gg22, gg23, gg24, gg25, rfl, by simp only [Act.put, List.setIfInBounds_toArray, List.set_cons_zero, List.set_cons_succ, cond_true, cond_false], ?_, ?_, ?_, ?_, ?_⟩
      · exact fb0
      · exact fb1
      · exact fb2
      · exact fB
      · exact fL
    · have ge19 : gg19 = false := hi2
      have ge18 : gg18 = true := inv_dep ho hall 18 (by kernel_rfl)
      clear hall hi1 hi2
      subst ge19 ge18
      have ho2 := ho
      simp only [List.getElem?_toArray, List.getElem?_cons_zero, List.getElem?_cons_succ] at ho2
      have ho3 := Option.some.inj ho2; clear ho2; subst ho3
      obtain ⟨ba0, bb0⟩ := fb0.read; have bl0 := fb0.lt
      obtain ⟨ba1, bb1⟩ := fb1.read; have bl1 := fb1.lt
      simp only [Act.put, List.setIfInBounds_toArray, List.set_cons_zero, List.set_cons_succ]
      simp only [cond_true, cond_false]
      refine inv_op ho (by kernel_rfl) (fun K hK => ?_)
      clear ho
      go_simp
      go_at_call 115; (with_reducible refine (HM4.out _).mono ?_); rintro e w1 ⟨rfl, rfl⟩
      refine hK.out _ _ ?_
      unfold RTimesI
      refine ⟨gg0, gg1, gg2, gg3, gg4, gg5, gg6, gg7, gg8, gg9, gg10, gg11, gg12, gg13, gg14, gg15, gg16, gg17, true, true, gg20, gg21, gg22, gg23, gg24, gg25, rfl, by simp only [Act.put, List.setIfInBounds_toArray, List.set_cons_zero, List.set_cons_succ, cond_true, cond_false], ?_, ?_, ?_, ?_, ?_⟩
      · exact fb0
      · exact fb1
      · exact fb2
      · exact fB
      · exact fL
    · have ge20 : gg20 = false := hi2
      have ge16 : gg16 = true := inv_dep ho hall 16 (by kernel_rfl)
      have ge19 : gg19 = true := inv_dep ho hall 19 (by kernel_rfl)
      clear hall hi1 hi2
      subst ge20 ge16 ge19
      have ho2 := ho
      simp only [List.getElem?_toArray, List.getElem?_cons_zero, List.getElem?_cons_succ] at ho2
      have ho3 := Option.some.inj ho2; clear ho2; subst ho3
      obtain ⟨ba0, bb0⟩ := fb0.read; have bl0 := fb0.lt
      obtain ⟨ba1, bb1⟩ := fb1.read; have bl1 := fb1.lt
      simp only [Act.put, List.setIfInBounds_toArray, List.set_cons_zero, List.set_cons_succ]
      simp only [cond_true, cond_false]
      refine inv_op ho (by kernel_rfl) (fun K hK => ?_)
      clear ho
      go_simp
      go_at_call 114; (with_reducible refine (HY.out _).mono ?_); rintro e w1 ⟨rfl, hb⟩
      refine hK.out _ _ ?_
      unfold RTimesI
      refine ⟨gg0, gg1, gg2, gg3, gg4, gg5, gg6, gg7, gg8, gg9, gg10, gg11, gg12, gg13, gg14, gg15, true, gg17, gg18, true, true, gg21, gg22, gg23, gg24, gg25, rfl, by simp only [Act.put, List.setIfInBounds_toArray, List.set_cons_zero, List.set_cons_succ, cond_true, cond_false], ?_, ?_, ?_, ?_, ?_⟩
      · exact Blk.later hb fb0
      · exact Blk.later hb fb1
      · exact Blk.later hb fb2
      · exact belowThru fB hb
      · have := hb.size; omega
    · have ge21 : gg21 = false := hi2
      have ge6 : gg6 = true := inv_dep ho hall 6 (by kernel_rfl)
      have ge13 : gg13 = true := inv_dep ho hall 13 (by kernel_rfl)
      have ge20 : gg20 = true := inv_dep ho hall 20 (by kernel_rfl)
      clear hall hi1 hi2
      subst ge21 ge6 ge13 ge20
      have ho2 := ho
      simp only [List.getElem?_toArray, List.getElem?_cons_zero, List.getElem?_cons_succ] at ho2
      have ho3 := Option.some.inj ho2; clear ho2; subst ho3
      obtain ⟨ba0, bb0⟩ := fb0.read; have bl0 := fb0.lt
      obtain ⟨ba1, bb1⟩ := fb1.read; have bl1 := fb1.lt
      simp only [Act.put, List.setIfInBounds_toArray, List.set_cons_zero, List.set_cons_succ]
      simp only [cond_true, cond_false]
      refine inv_op ho (by kernel_rfl) (fun K hK => ?_)
      clear ho
      go_simp
      go_at_call 117; (with_reducible refine (HL.out _).mono ?_); rintro e w1 ⟨rfl, hb⟩
      refine hK.out _ _ ?_
      unfold RTimesI
      refine ⟨gg0, gg1, gg2, gg3, gg4, gg5, true, gg7, gg8, gg9, gg10, gg11, gg12, true, gg14, gg15, gg16, gg17, gg18, gg19, true, true, gg22, gg23, gg24, gg25, rfl, by simp only [Act.put, List.setIfInBounds_toArray, List.set_cons_zero, List.set_cons_succ, cond_true, cond_false], ?_, ?_, ?_, ?_, ?_⟩
      · exact Blk.later hb fb0
      · exact Blk.later hb fb1
      · exact Blk.later hb fb2
      · exact belowThru fB hb
      · have := hb.size; omega
    · have ge22 : gg22 = false := hi2
      have ge21 : gg21 = true := inv_dep ho hall 21 (by kernel_rfl)
      clear hall hi1 hi2
      subst ge22 ge21
      have ho2 := ho
      simp only [List.getElem?_toArray, List.getElem?_cons_zero, List.getElem?_cons_succ] at ho2
      have ho3 := Option.some.inj ho2; clear ho2; subst ho3
      obtain ⟨ba0, bb0⟩ := fb0.read; have bl0 := fb0.lt
      obtain ⟨ba1, bb1⟩ := fb1.read; have bl1 := fb1.lt
      simp only [Act.put, List.setIfInBounds_toArray, List.set_cons_zero, List.set_cons_succ]
      simp only [cond_true, cond_false]
      refine inv_op ho (by kernel_rfl) (fun K hK => ?_)
      clear ho
      go_simp
      refine hK.out _ _ ?_
      unfold RTimesI
      refine ⟨gg0, gg1, gg2, gg3, gg4, gg5, gg6, gg7, gg8, gg9, gg10, gg11, gg12, gg13, gg14, gg15, gg16, gg17, gg18, gg19, gg20, true, true, gg23, gg24, gg25, rfl, by simp only [Act.put, List.setIfInBounds_toArray, List.set_cons_zero, List.set_cons_succ, cond_true, cond_false], ?_, ?_, ?_, ?_, ?_⟩
      · exact fb0
      · exact fb1
      · exact fb2
      · exact fB
      · exact fL
    · have ge23 : gg23 = false := hi2
      have ge21 : gg21 = true := inv_dep ho hall 21 (by kernel_rfl)
      clear hall hi1 hi2
      subst ge23 ge21
      have ho2 := ho
      simp only [List.getElem?_toArray, List.getElem?_cons_zero, List.getElem?_cons_succ] at ho2
      have ho3 := Option.some.inj ho2; clear ho2; subst ho3
      obtain ⟨ba0, bb0⟩ := fb0.read; have bl0 := fb0.lt
      obtain ⟨ba1, bb1⟩ := fb1.read; have bl1 := fb1.lt
      simp only [Act.put, List.setIfInBounds_toArray, List.set_cons_zero, List.set_cons_succ]
      simp only [cond_true, cond_false]
      refine inv_op ho (by kernel_rfl) (fun K hK => ?_)
      clear ho
      go_simp
      refine hK.out _ _ ?_
      unfold RTimesI
      refine ⟨gg0, gg1, gg2, gg3, gg4, gg5, gg6, gg7, gg8, gg9, gg10, gg11, gg12, gg13, gg14, gg15, gg16, gg17, gg18, gg19, gg20, true, gg22, true, gg24, gg25, rfl, by simp only [Act.put, List.setIfInBounds_toArray, List.set_cons_zero, List.set_cons_succ, cond_true, cond_false], ?_, ?_, ?_, ?_, ?_⟩
      · exact fb0
      · exact fb1
      · exact fb2
      · exact fB
      · exact fL
    · have ge24 : gg24 = false := hi2
      have ge22 : gg22 = true := inv_dep ho hall 22 (by kernel_rfl)
      clear hall hi1 hi2
      subst ge24 ge22
      have ho2 := ho
      simp only [List.getElem?_toArray, List.getElem?_cons_zero, List.getElem?_cons_succ] at ho2
      have ho3 := Option.some.inj ho2; clear ho2; subst ho3
      simp only [cond_true, cond_false] at fb2
      obtain ⟨ba0, bb0⟩ := fb0.read; have bl0 := fb0.lt
      obtain ⟨ba1, bb1⟩ := fb1.read; have bl1 := fb1.lt
      obtain ⟨ba2, bb2⟩ := fb2.read; have bl2 := fb2.lt
      simp only [Act.put, List.setIfInBounds_toArray, List.set_cons_zero, List.set_cons_succ]
      simp only [cond_true, cond_false]
      refine inv_op ho (by kernel_rfl) (fun K hK => ?_)
      clear ho
      go_simp
      refine hK.out _ _ ?_
      unfold RTimesI
      refine ⟨gg0, gg1, gg2, gg3, gg4, gg5, gg6, gg7, gg8, gg9, gg10, gg11, gg12, gg13, gg14, gg15, gg16, gg17, gg18, gg19, gg20, gg21, true, gg23, true, gg25, rfl, by simp only [Act.put, List.setIfInBounds_toArray, List.set_cons_zero, List.set_cons_succ, cond_true, cond_false], ?_, ?_, ?_, ?_, ?_⟩
      · (repeat' (first | (with_reducible assumption) | ((with_reducible refine Blk.new ?_); first | rfl | (simp; done)) | (with_reducible refine Blk.later (by assumption) ?_) | (with_reducible refine Blk.alloc ?_) | (with_reducible refine Blk.drewN ?_) | (with_reducible refine Blk.drew ?_) | (with_reducible refine Blk.other ?_ (by first | omega | (simp; done) | (simp; omega)))))
      · (repeat' (first | (with_reducible assumption) | ((with_reducible refine Blk.new ?_); first | rfl | (simp; done)) | (with_reducible refine Blk.later (by assumption) ?_) | (with_reducible refine Blk.alloc ?_) | (with_reducible refine Blk.drewN ?_) | (with_reducible refine Blk.drew ?_) | (with_reducible refine Blk.other ?_ (by first | omega | (simp; done) | (simp; omega)))))
      · exact Blk.set (Blk.set (fb2))
      · (repeat' (first | (with_reducible exact Below.refl _ _) | (with_reducible assumption) | (with_reducible refine belowThru ?_ (by assumption)) | (with_reducible refine belowAlloc ?_) | (with_reducible refine Below.setCell ?_ (by first | omega | (simp; done) | (simp; omega)) _) | (with_reducible refine Below.drew ?_) | (with_reducible refine below_drewN ?_ _)))
      · first | exact fL | (simp; omega)
    · have ge25 : gg25 = false := hi2
      have ge23 : gg23 = true := inv_dep ho hall 23 (by kernel_rfl)
      clear hall hi1 hi2
      subst ge25 ge23
      have ho2 := ho
      simp only [List.getElem?_toArray, List.getElem?_cons_zero, List.getElem?_cons_succ] at ho2
      have ho3 := Option.some.inj ho2; clear ho2; subst ho3
      obtain ⟨ba0, bb0⟩ := fb0.read; have bl0 := fb0.lt
      obtain ⟨ba1, bb1⟩ := fb1.read; have bl1 := fb1.lt
      simp only [Act.put, List.setIfInBounds_toArray, List.set_cons_zero, List.set_cons_succ]
      simp only [cond_true, cond_false]
      refine inv_op ho (by kernel_rfl) (fun K hK => ?_)
      clear ho
      go_simp
      refine hK.out _ _ ?_
      unfold RTimesI
      refine ⟨gg0, gg1, gg2, gg3, gg4, gg5, gg6, gg7, gg8, gg9, gg10, gg11, gg12, gg13, gg14, gg15, gg16, gg17, gg18, gg19, gg20, gg21, gg22, true, gg24, true, rfl, by simp only [Act.put, List.setIfInBounds_toArray, List.set_cons_zero, List.set_cons_succ, cond_true, cond_false], ?_, ?_, ?_, ?_, ?_⟩
      · exact fb0
      · exact fb1
      · exact fb2
      · exact fB
      · exact fL
    · exfalso; simp at hi1; omega
  case hfin =>
    intro a w9 hI
    obtain ⟨gg0, gg1, gg2, gg3, gg4, gg5, gg6, gg7, gg8, gg9, gg10, gg11, gg12, gg13, gg14, gg15, gg16, gg17, gg18, gg19, gg20, gg21, gg22, gg23, gg24, gg25, hL, rfl, fb0, fb1, fb2, fB, fL⟩ := hI
    have hL2 : #[true, true, true, true, true, true, true, true, true, true, true, true, true, true, true, true, true, true, true, true, true, true, true, true, true, true] = #[gg0, gg1, gg2, gg3, gg4, gg5, gg6, gg7, gg8, gg9, gg10, gg11, gg12, gg13, gg14, gg15, gg16, gg17, gg18, gg19, gg20, gg21, gg22, gg23, gg24, gg25] := hL
    cases hL2
    simp only [Act.put, List.setIfInBounds_toArray, List.set_cons_zero, List.set_cons_succ]
    simp only [cond_true]
    go_wp2_with fail
    simp only [cond_true] at fb2
    obtain ⟨ra, rb⟩ := fb2.read
    exact bodyPost_ret (v := .tuple #[.agg #[.int .i64 A, .int .i64 B], .bool ok]) (by simp only [results, Try.results97]; go_simp) rfl ⟨rfl, fB⟩

/-- What holds of the region whichever operations have come up. -/
def ROverI (a b c d s t y m1 m2 m3 m4 X1 X0 Y1 Y0 A B : Int) (ok : Bool) (w : World) (i6 i7 i8 i9 i10 i11 i12 i13 i14 i15 i16 i17 i18 i19 i20 i21 i22 i23 i24 i25 i26 i27 i28 i29 i5 : Value) (b9 : Act) (L9 : Array Bool) (a9 : Act) (w9 : World) : Prop :=
  ∃ (gg0 gg1 gg2 gg3 gg4 gg5 gg6 gg7 gg8 gg9 gg10 gg11 gg12 gg13 gg14 gg15 gg16 gg17 gg18 gg19 gg20 gg21 gg22 gg23 gg24 gg25 : Bool), L9 = #[gg0, gg1, gg2, gg3, gg4, gg5, gg6, gg7, gg8, gg9, gg10, gg11, gg12, gg13, gg14, gg15, gg16, gg17, gg18, gg19, gg20, gg21, gg22, gg23, gg24, gg25] ∧ a9 = (((((((((((((((((((((((((b9).put (some 6) (cond gg0 (.pointer (some ⟨w.heap.size, 0, none⟩)) (i6))).put (some 7) (cond gg1 (.int .i64 a) (i7))).put (some 8) (cond gg2 (.int .i64 s) (i8))).put (some 9) (cond gg3 (.pointer (some ⟨(w.heap.size + 1), 0, none⟩)) (i9))).put (some 10) (cond gg4 (.int .i64 c) (i10))).put (some 11) (cond gg5 (.int .i64 t) (i11))).put (some 12) (cond gg6 (.int .i64 y) (i12))).put (some 13) (cond gg7 (.pointer (some ⟨w.heap.size, 0, none⟩)) (i13))).put (some 14) (cond gg8 (.int .i64 a) (i14))).put (some 15) (cond gg9 (.int .u64 m1) (i15))).put (some 16) (cond gg10 (.pointer (some ⟨(w.heap.size + 1), 1, none⟩)) (i16))).put (some 17) (cond gg11 (.int .i64 d) (i17))).put (some 18) (cond gg12 (.int .u64 m2) (i18))).put (some 19) (cond gg13 (.agg #[.int .u64 X1, .int .u64 X0]) (i19))).put (some 20) (cond gg14 (.pointer (some ⟨w.heap.size, 1, none⟩)) (i20))).put (some 21) (cond gg15 (.int .i64 b) (i21))).put (some 22) (cond gg16 (.int .u64 m3) (i22))).put (some 23) (cond gg17 (.pointer (some ⟨(w.heap.size + 1), 0, none⟩)) (i23))).put (some 24) (cond gg18 (.int .i64 c) (i24))).put (some 25) (cond gg19 (.int .u64 m4) (i25))).put (some 26) (cond gg20 (.agg #[.int .u64 Y1, .int .u64 Y0]) (i26))).put (some 27) (cond gg21 (.tuple #[.agg #[.int .i64 A, .int .i64 B], .bool ok]) (i27))).put (some 28) (cond gg22 (.agg #[.int .i64 A, .int .i64 B]) (i28))).put (some 29) (cond gg23 (.bool ok) (i29))).put (some 5) (cond gg25 (.bool ok) (i5)) ∧ Blk w9 w.heap.size #[.int .i64 a, .int .i64 b] 23 ∧ Blk w9 (w.heap.size + 1) #[.int .i64 c, .int .i64 d] 23 ∧ Blk w9 (w.heap.size + 1 + 1) (cond gg24 #[.int .i64 A, .int .i64 B] #[.int .i64 0, .int .i64 0]) 23 ∧ Below w.heap.size w w9 ∧ (w.heap.size + 1 + 1 + 1) ≤ w9.heap.size

set_option maxRecDepth 100000 in
set_option maxHeartbeats 8000000 in
set_option linter.unusedSimpArgs false in
theorem rover_walk (a b c d s t y m1 m2 m3 m4 X1 X0 Y1 Y0 A B : Int) (ok : Bool) (w : World) (hy : IntKind.i64.wrap (s * t) = y)
    (HS1 : Hid (∀ w, Calls Try.prog 116 #[.int .i64 a] w fun e w' => e = .returned (.int .i64 s) ∧ w = w'))
    (HS2 : Hid (∀ w, Calls Try.prog 116 #[.int .i64 c] w fun e w' => e = .returned (.int .i64 t) ∧ w = w'))
    (HM1 : Hid (∀ w, Calls Try.prog 115 #[.int .i64 a] w fun e w' => e = .returned (.int .u64 m1) ∧ w = w'))
    (HM2 : Hid (∀ w, Calls Try.prog 115 #[.int .i64 d] w fun e w' => e = .returned (.int .u64 m2) ∧ w = w'))
    (HM3 : Hid (∀ w, Calls Try.prog 115 #[.int .i64 b] w fun e w' => e = .returned (.int .u64 m3) ∧ w = w'))
    (HM4 : Hid (∀ w, Calls Try.prog 115 #[.int .i64 c] w fun e w' => e = .returned (.int .u64 m4) ∧ w = w'))
    (HX : Hid (∀ w, Calls Try.prog 114 #[.int .u64 m1, .int .u64 m2] w fun e w' => e = .returned (.agg #[.int .u64 X1, .int .u64 X0]) ∧ Below w.heap.size w w'))
    (HY : Hid (∀ w, Calls Try.prog 114 #[.int .u64 m3, .int .u64 m4] w fun e w' => e = .returned (.agg #[.int .u64 Y1, .int .u64 Y0]) ∧ Below w.heap.size w w'))
    (HL : Hid (∀ w, Calls Try.prog 117 #[.int .i64 y, .agg #[.int .u64 X1, .int .u64 X0], .agg #[.int .u64 Y1, .int .u64 Y0]] w fun e w' => e = .returned (.tuple #[.agg #[.int .i64 A, .int .i64 B], .bool ok]) ∧ Below w.heap.size w w')) :
    Calls Try.prog 125 #[.agg #[.int .i64 a, .int .i64 b], .agg #[.int .i64 c, .int .i64 d]] w fun e w' => e = .returned (.tuple #[.agg #[.int .i64 A, .int .i64 B], .bool ok]) ∧ Below w.heap.size w w' := by
  go_enter Try.func125, Try.ntmps125
  go_upto_region 1 with fail
  refine wp_region_inv (ROverI a b c d s t y m1 m2 m3 m4 X1 X0 Y1 Y0 A B ok w ?i6 ?i7 ?i8 ?i9 ?i10 ?i11 ?i12 ?i13 ?i14 ?i15 ?i16 ?i17 ?i18 ?i19 ?i20 ?i21 ?i22 ?i23 ?i24 ?i25 ?i26 ?i27 ?i28 ?i29 ?i5) (by kernel_rfl) (by kernel_rfl) ?hsz ?hst ?hstep ?hfin
  case hst =>
    unfold ROverI
    refine ⟨false, false, false, false, false, false, false, false, false, false, false, false, false, false, false, false, false, false, false, false, false, false, false, false, false, false, rfl, ?_, ?_, ?_, ?_, ?_, ?_⟩
    · first | (simp only [Act.put, List.setIfInBounds_toArray, List.set_cons_zero, List.set_cons_succ, cond_false]; done) | (simp only [Act.put, List.setIfInBounds_toArray, List.set_cons_zero, List.set_cons_succ, cond_false]; rfl)
    all_goals (first | (intro h; cases h; done) | ((repeat' (first | (with_reducible assumption) | ((with_reducible refine Blk.new ?_); first | rfl | (simp; done)) | (with_reducible refine Blk.later (by assumption) ?_) | (with_reducible refine Blk.alloc ?_) | (with_reducible refine Blk.drewN ?_) | (with_reducible refine Blk.drew ?_) | (with_reducible refine Blk.other ?_ (by first | omega | (simp; done) | (simp; omega))))); done) | ((repeat' (first | (with_reducible exact Below.refl _ _) | (with_reducible assumption) | (with_reducible refine belowThru ?_ (by assumption)) | (with_reducible refine belowAlloc ?_) | (with_reducible refine Below.setCell ?_ (by first | omega | (simp; done) | (simp; omega)) _) | (with_reducible refine Below.drew ?_) | (with_reducible refine below_drewN ?_ _))); done) | (simp only [cond_false]; (repeat' (first | (with_reducible assumption) | ((with_reducible refine Blk.new ?_); first | rfl | (simp; done)) | (with_reducible refine Blk.later (by assumption) ?_) | (with_reducible refine Blk.alloc ?_) | (with_reducible refine Blk.drewN ?_) | (with_reducible refine Blk.drew ?_) | (with_reducible refine Blk.other ?_ (by first | omega | (simp; done) | (simp; omega))))); done) | (simp only [World.size_drew]; omega) | (simp only [World.size_drew] at *; omega) | (simp; done) | (simp; omega))
  case hsz =>
    intro L a w9 h
    obtain ⟨gg0, gg1, gg2, gg3, gg4, gg5, gg6, gg7, gg8, gg9, gg10, gg11, gg12, gg13, gg14, gg15, gg16, gg17, gg18, gg19, gg20, gg21, gg22, gg23, gg24, gg25, rfl, -⟩ := h; rfl
  case hstep =>
    intro L a w9 hI i hi
    obtain ⟨gg0, gg1, gg2, gg3, gg4, gg5, gg6, gg7, gg8, gg9, gg10, gg11, gg12, gg13, gg14, gg15, gg16, gg17, gg18, gg19, gg20, gg21, gg22, gg23, gg24, gg25, rfl, rfl, fb0, fb1, fb2, fB, fL⟩ := hI
    obtain ⟨hi1, hi2, o, ho, hall⟩ := inv_mem hi
    clear hi
    rcases i with _ | _ | _ | _ | _ | _ | _ | _ | _ | _ | _ | _ | _ | _ | _ | _ | _ | _ | _ | _ | _ | _ | _ | _ | _ | _ | i
    · have ge0 : gg0 = false := hi2
      clear hall hi1 hi2
      subst ge0
      have ho2 := ho
      simp only [List.getElem?_toArray, List.getElem?_cons_zero, List.getElem?_cons_succ] at ho2
      have ho3 := Option.some.inj ho2; clear ho2; subst ho3
      obtain ⟨ba0, bb0⟩ := fb0.read; have bl0 := fb0.lt
      obtain ⟨ba1, bb1⟩ := fb1.read; have bl1 := fb1.lt
      simp only [Act.put, List.setIfInBounds_toArray, List.set_cons_zero, List.set_cons_succ]
      simp only [cond_true, cond_false]
      refine inv_op ho (by kernel_rfl) (fun K hK => ?_)
      clear ho
      go_simp
      refine hK.out _ _ ?_
      unfold ROverI
      refine ⟨true, gg1, gg2, gg3, gg4, gg5, gg6, gg7, gg8, gg9, gg10, gg11, gg12, gg13, gg14, gg15, gg16, gg17, gg18, gg19, gg20, gg21, gg22, gg23, gg24, gg25, rfl, by simp only [Act.put, List.setIfInBounds_toArray, List.set_cons_zero, List.set_cons_succ, cond_true, cond_false], ?_, ?_, ?_, ?_, ?_⟩
      · exact fb0
      · exact fb1
      · exact fb2
      · exact fB
      · exact fL
    · have ge1 : gg1 = false := hi2
      have ge0 : gg0 = true := inv_dep ho hall 0 (by kernel_rfl)
      clear hall hi1 hi2
      subst ge1 ge0
      have ho2 := ho
      simp only [List.getElem?_toArray, List.getElem?_cons_zero, List.getElem?_cons_succ] at ho2
      have ho3 := Option.some.inj ho2; clear ho2; subst ho3
      obtain ⟨ba0, bb0⟩ := fb0.read; have bl0 := fb0.lt
      obtain ⟨ba1, bb1⟩ := fb1.read; have bl1 := fb1.lt
      simp only [Act.put, List.setIfInBounds_toArray, List.set_cons_zero, List.set_cons_succ]
      simp only [cond_true, cond_false]
      refine inv_op ho (by kernel_rfl) (fun K hK => ?_)
      clear ho
      go_simp
      refine hK.out _ _ ?_
      unfold ROverI
      refine ⟨true, true, gg2, gg3, gg4, gg5, gg6, gg7, gg8, gg9, gg10, gg11, gg12, gg13, gg14, gg15, gg16, gg17, gg18, gg19, gg20, gg21, gg22, gg23, gg24, gg25, rfl, by simp only [Act.put, List.setIfInBounds_toArray, List.set_cons_zero, List.set_cons_succ, cond_true, cond_false], ?_, ?_, ?_, ?_, ?_⟩
      · exact fb0
      · exact fb1
      · exact fb2
      · exact fB
      · exact fL
    · have ge2 : gg2 = false := hi2
      have ge1 : gg1 = true := inv_dep ho hall 1 (by kernel_rfl)
      clear hall hi1 hi2
      subst ge2 ge1
      have ho2 := ho
      simp only [List.getElem?_toArray, List.getElem?_cons_zero, List.getElem?_cons_succ] at ho2
      have ho3 := Option.some.inj ho2; clear ho2; subst ho3
      obtain ⟨ba0, bb0⟩ := fb0.read; have bl0 := fb0.lt
      obtain ⟨ba1, bb1⟩ := fb1.read; have bl1 := fb1.lt
      simp only [Act.put, List.setIfInBounds_toArray, List.set_cons_zero, List.set_cons_succ]
      simp only [cond_true, cond_false]
      refine inv_op ho (by kernel_rfl) (fun K hK => ?_)
      clear ho
      go_simp
      go_at_call 116; (with_reducible refine (HS1.out _).mono ?_); rintro e w1 ⟨rfl, rfl⟩
      refine hK.out _ _ ?_
      unfold ROverI
      refine ⟨gg0, true, true, gg3, gg4, gg5, gg6, gg7, gg8, gg9, gg10, gg11, gg12, gg13, gg14, gg15, gg16, gg17, gg18, gg19, gg20, gg21, gg22, gg23, gg24, gg25, rfl, by simp only [Act.put, List.setIfInBounds_toArray, List.set_cons_zero, List.set_cons_succ, cond_true, cond_false], ?_, ?_, ?_, ?_, ?_⟩
      · exact fb0
      · exact fb1
      · exact fb2
      · exact fB
      · exact fL
    · have ge3 : gg3 = false := hi2
      clear hall hi1 hi2
      subst ge3
      have ho2 := ho
      simp only [List.getElem?_toArray, List.getElem?_cons_zero, List.getElem?_cons_succ] at ho2
      have ho3 := Option.some.inj ho2; clear ho2; subst ho3
      obtain ⟨ba0, bb0⟩ := fb0.read; have bl0 := fb0.lt
      obtain ⟨ba1, bb1⟩ := fb1.read; have bl1 := fb1.lt
      simp only [Act.put, List.setIfInBounds_toArray, List.set_cons_zero, List.set_cons_succ]
      simp only [cond_true, cond_false]
      refine inv_op ho (by kernel_rfl) (fun K hK => ?_)
      clear ho
      go_simp
      refine hK.out _ _ ?_
      unfold ROverI
      refine ⟨gg0, gg1, gg2, true, gg4, gg5, gg6, gg7, gg8, gg9, gg10, gg11, gg12, gg13, gg14, gg15, gg16, gg17, gg18, gg19, gg20, gg21, gg22, gg23, gg24, gg25, rfl, by simp only [Act.put, List.setIfInBounds_toArray, List.set_cons_zero, List.set_cons_succ, cond_true, cond_false], ?_, ?_, ?_, ?_, ?_⟩
      · exact fb0
      · exact fb1
      · exact fb2
      · exact fB
      · exact fL
    · have ge4 : gg4 = false := hi2
      have ge3 : gg3 = true := inv_dep ho hall 3 (by kernel_rfl)
      clear hall hi1 hi2
      subst ge4 ge3
      have ho2 := ho
      simp only [List.getElem?_toArray, List.getElem?_cons_zero, List.getElem?_cons_succ] at ho2
      have ho3 := Option.some.inj ho2; clear ho2; subst ho3
      obtain ⟨ba0, bb0⟩ := fb0.read; have bl0 := fb0.lt
      obtain ⟨ba1, bb1⟩ := fb1.read; have bl1 := fb1.lt
      simp only [Act.put, List.setIfInBounds_toArray, List.set_cons_zero, List.set_cons_succ]
      simp only [cond_true, cond_false]
      refine inv_op ho (by kernel_rfl) (fun K hK => ?_)
      clear ho
      go_simp
      refine hK.out _ _ ?_
      unfold ROverI
      refine ⟨gg0, gg1, gg2, true, true, gg5, gg6, gg7, gg8, gg9, gg10, gg11, gg12, gg13, gg14, gg15, gg16, gg17, gg18, gg19, gg20, gg21, gg22, gg23, gg24, gg25, rfl, by simp only [Act.put, List.setIfInBounds_toArray, List.set_cons_zero, List.set_cons_succ, cond_true, cond_false], ?_, ?_, ?_, ?_, ?_⟩
      · exact fb0
      · exact fb1
      · exact fb2
      · exact fB
      · exact fL
    · have ge5 : gg5 = false := hi2
      have ge4 : gg4 = true := inv_dep ho hall 4 (by kernel_rfl)
      clear hall hi1 hi2
      subst ge5 ge4
      have ho2 := ho
      simp only [List.getElem?_toArray, List.getElem?_cons_zero, List.getElem?_cons_succ] at ho2
      have ho3 := Option.some.inj ho2; clear ho2; subst ho3
      obtain ⟨ba0, bb0⟩ := fb0.read; have bl0 := fb0.lt
      obtain ⟨ba1, bb1⟩ := fb1.read; have bl1 := fb1.lt
      simp only [Act.put, List.setIfInBounds_toArray, List.set_cons_zero, List.set_cons_succ]
      simp only [cond_true, cond_false]
      refine inv_op ho (by kernel_rfl) (fun K hK => ?_)
      clear ho
      go_simp
      go_at_call 116; (with_reducible refine (HS2.out _).mono ?_); rintro e w1 ⟨rfl, rfl⟩
      refine hK.out _ _ ?_
      unfold ROverI
      refine ⟨gg0, gg1, gg2, gg3, true, true, gg6, gg7, gg8, gg9, gg10, gg11, gg12, gg13, gg14, gg15, gg16, gg17, gg18, gg19, gg20, gg21, gg22, gg23, gg24, gg25, rfl, by simp only [Act.put, List.setIfInBounds_toArray, List.set_cons_zero, List.set_cons_succ, cond_true, cond_false], ?_, ?_, ?_, ?_, ?_⟩
      · exact fb0
      · exact fb1
      · exact fb2
      · exact fB
      · exact fL
    · have ge6 : gg6 = false := hi2
      have ge2 : gg2 = true := inv_dep ho hall 2 (by kernel_rfl)
      have ge5 : gg5 = true := inv_dep ho hall 5 (by kernel_rfl)
      clear hall hi1 hi2
      subst ge6 ge2 ge5
      have ho2 := ho
      simp only [List.getElem?_toArray, List.getElem?_cons_zero, List.getElem?_cons_succ] at ho2
      have ho3 := Option.some.inj ho2; clear ho2; subst ho3
      obtain ⟨ba0, bb0⟩ := fb0.read; have bl0 := fb0.lt
      obtain ⟨ba1, bb1⟩ := fb1.read; have bl1 := fb1.lt
      simp only [Act.put, List.setIfInBounds_toArray, List.set_cons_zero, List.set_cons_succ]
      simp only [cond_true, cond_false]
      refine inv_op ho (by kernel_rfl) (fun K hK => ?_)
      clear ho
      go_simp
      refine hK.out _ _ ?_
      unfold ROverI
      refine ⟨gg0, gg1, true, gg3, gg4, true, true, gg7, gg8, gg9, gg10, gg11, gg12, gg13, gg14, gg15, gg16, gg17, gg18, gg19, gg20, gg21, gg22, gg23, gg24, gg25, rfl, by simp only [Act.put, List.setIfInBounds_toArray, List.set_cons_zero, List.set_cons_succ, cond_true, cond_false], ?_, ?_, ?_, ?_, ?_⟩
      · exact fb0
      · exact fb1
      · exact fb2
      · exact fB
      · exact fL
    · have ge7 : gg7 = false := hi2
      clear hall hi1 hi2
      subst ge7
      have ho2 := ho
      simp only [List.getElem?_toArray, List.getElem?_cons_zero, List.getElem?_cons_succ] at ho2
      have ho3 := Option.some.inj ho2; clear ho2; subst ho3
      obtain ⟨ba0, bb0⟩ := fb0.read; have bl0 := fb0.lt
      obtain ⟨ba1, bb1⟩ := fb1.read; have bl1 := fb1.lt
      simp only [Act.put, List.setIfInBounds_toArray, List.set_cons_zero, List.set_cons_succ]
      simp only [cond_true, cond_false]
      refine inv_op ho (by kernel_rfl) (fun K hK => ?_)
      clear ho
      go_simp
      refine hK.out _ _ ?_
      unfold ROverI
      refine ⟨gg0, gg1, gg2, gg3, gg4, gg5, gg6, true, gg8, gg9, gg10, gg11, gg12, gg13, gg14, gg15, gg16, gg17, gg18, gg19, gg20, gg21, gg22, gg23, gg24, gg25, rfl, by simp only [Act.put, List.setIfInBounds_toArray, List.set_cons_zero, List.set_cons_succ, cond_true, cond_false], ?_, ?_, ?_, ?_, ?_⟩
      · exact fb0
      · exact fb1
      · exact fb2
      · exact fB
      · exact fL
    · have ge8 : gg8 = false := hi2
      have ge7 : gg7 = true := inv_dep ho hall 7 (by kernel_rfl)
      clear hall hi1 hi2
      subst ge8 ge7
      have ho2 := ho
      simp only [List.getElem?_toArray, List.getElem?_cons_zero, List.getElem?_cons_succ] at ho2
      have ho3 := Option.some.inj ho2; clear ho2; subst ho3
      obtain ⟨ba0, bb0⟩ := fb0.read; have bl0 := fb0.lt
      obtain ⟨ba1, bb1⟩ := fb1.read; have bl1 := fb1.lt
      simp only [Act.put, List.setIfInBounds_toArray, List.set_cons_zero, List.set_cons_succ]
      simp only [cond_true, cond_false]
      refine inv_op ho (by kernel_rfl) (fun K hK => ?_)
      clear ho
      go_simp
      refine hK.out _ _ ?_
      unfold ROverI
      refine ⟨gg0, gg1, gg2, gg3, gg4, gg5, gg6, true, true, gg9, gg10, gg11, gg12, gg13, gg14, gg15, gg16, gg17, gg18, gg19, gg20, gg21, gg22, gg23, gg24, gg25, rfl, by simp only [Act.put, List.setIfInBounds_toArray, List.set_cons_zero, List.set_cons_succ, cond_true, cond_false], ?_, ?_, ?_, ?_, ?_⟩
      · exact fb0
      · exact fb1
      · exact fb2
      · exact fB
      · exact fL
    · have ge9 : gg9 = false := hi2
      have ge8 : gg8 = true := inv_dep ho hall 8 (by kernel_rfl)
      clear hall hi1 hi2
      subst ge9 ge8
      have ho2 := ho
      simp only [List.getElem?_toArray, List.getElem?_cons_zero, List.getElem?_cons_succ] at ho2
      have ho3 := Option.some.inj ho2; clear ho2; subst ho3
      obtain ⟨ba0, bb0⟩ := fb0.read; have bl0 := fb0.lt
      obtain ⟨ba1, bb1⟩ := fb1.read; have bl1 := fb1.lt
      simp only [Act.put, List.setIfInBounds_toArray, List.set_cons_zero, List.set_cons_succ]
      simp only [cond_true, cond_false]
      refine inv_op ho (by kernel_rfl) (fun K hK => ?_)
      clear ho
      go_simp
      go_at_call 115; (with_reducible refine (HM1.out _).mono ?_); rintro e w1 ⟨rfl, rfl⟩
      refine hK.out _ _ ?_
      unfold ROverI
      refine ⟨gg0, gg1, gg2, gg3, gg4, gg5, gg6, gg7, true, true, gg10, gg11, gg12, gg13, gg14, gg15, gg16, gg17, gg18, gg19, gg20, gg21, gg22, gg23, gg24, gg25, rfl, by simp only [Act.put, List.setIfInBounds_toArray, List.set_cons_zero, List.set_cons_succ, cond_true, cond_false], ?_, ?_, ?_, ?_, ?_⟩
      · exact fb0
      · exact fb1
      · exact fb2
      · exact fB
      · exact fL
    · have ge10 : gg10 = false := hi2
      clear hall hi1 hi2
      subst ge10
      have ho2 := ho
      simp only [List.getElem?_toArray, List.getElem?_cons_zero, List.getElem?_cons_succ] at ho2
      have ho3 := Option.some.inj ho2; clear ho2; subst ho3
      obtain ⟨ba0, bb0⟩ := fb0.read; have bl0 := fb0.lt
      obtain ⟨ba1, bb1⟩ := fb1.read; have bl1 := fb1.lt
      simp only [Act.put, List.setIfInBounds_toArray, List.set_cons_zero, List.set_cons_succ]
      simp only [cond_true, cond_false]
      refine inv_op ho (by kernel_rfl) (fun K hK => ?_)
      clear ho
      go_simp
      refine hK.out _ _ ?_
      unfold ROverI
      refine ⟨gg0, gg1, gg2, gg3, gg4, gg5, gg6, gg7, gg8, gg9, true, gg11, gg12, gg13, gg14, gg15, gg16, gg17, gg18, gg19, gg20, gg21, gg22, gg23, gg24, gg25, rfl, by simp only [Act.put, List.setIfInBounds_toArray, List.set_cons_zero, List.set_cons_succ, cond_true, cond_false], ?_, ?_, ?_, ?_, ?_⟩
      · exact fb0
      · exact fb1
      · exact fb2
      · exact fB
      · exact fL
    · have ge11 : gg11 = false := hi2
      have ge10 : gg10 = true := inv_dep ho hall 10 (by kernel_rfl)
      clear hall hi1 hi2
      subst ge11 ge10
      have ho2 := ho
      simp only [List.getElem?_toArray, List.getElem?_cons_zero, List.getElem?_cons_succ] at ho2
      have ho3 := Option.some.inj ho2; clear ho2; subst ho3
      obtain ⟨ba0, bb0⟩ := fb0.read; have bl0 := fb0.lt
      obtain ⟨ba1, bb1⟩ := fb1.read; have bl1 := fb1.lt
      simp only [Act.put, List.setIfInBounds_toArray, List.set_cons_zero, List.set_cons_succ]
      simp only [cond_true, cond_false]
      refine inv_op ho (by kernel_rfl) (fun K hK => ?_)
      clear ho
      go_simp
      refine hK.out _ _ ?_
      unfold ROverI
      refine ⟨gg0, gg1, gg2, gg3, gg4, gg5, gg6, gg7, gg8, gg9, true, true, gg12, gg13, gg14, gg15, gg16, gg17, gg18, gg19, gg20, gg21, gg22, gg23, gg24, gg25, rfl, by simp only [Act.put, List.setIfInBounds_toArray, List.set_cons_zero, List.set_cons_succ, cond_true, cond_false], ?_, ?_, ?_, ?_, ?_⟩
      · exact fb0
      · exact fb1
      · exact fb2
      · exact fB
      · exact fL
    · have ge12 : gg12 = false := hi2
      have ge11 : gg11 = true := inv_dep ho hall 11 (by kernel_rfl)
      clear hall hi1 hi2
      subst ge12 ge11
      have ho2 := ho
      simp only [List.getElem?_toArray, List.getElem?_cons_zero, List.getElem?_cons_succ] at ho2
      have ho3 := Option.some.inj ho2; clear ho2; subst ho3
      obtain ⟨ba0, bb0⟩ := fb0.read; have bl0 := fb0.lt
      obtain ⟨ba1, bb1⟩ := fb1.read; have bl1 := fb1.lt
      simp only [Act.put, List.setIfInBounds_toArray, List.set_cons_zero, List.set_cons_succ]
      simp only [cond_true, cond_false]
      refine inv_op ho (by kernel_rfl) (fun K hK => ?_)
      clear ho
      go_simp
      go_at_call 115; (with_reducible refine (HM2.out _).mono ?_); rintro e w1 ⟨rfl, rfl⟩
      refine hK.out _ _ ?_
      unfold ROverI
      refine ⟨gg0, gg1, gg2, gg3, gg4, gg5, gg6, gg7, gg8, gg9, gg10, true, true, gg13, gg14, gg15, gg16, gg17, gg18, gg19, gg20, gg21, gg22, gg23, gg24, gg25, rfl, by simp only [Act.put, List.setIfInBounds_toArray, List.set_cons_zero, List.set_cons_succ, cond_true, cond_false], ?_, ?_, ?_, ?_, ?_⟩
      · exact fb0
      · exact fb1
      · exact fb2
      · exact fB
      · exact fL
    · have ge13 : gg13 = false := hi2
      have ge9 : gg9 = true := inv_dep ho hall 9 (by kernel_rfl)
      have ge12 : gg12 = true := inv_dep ho hall 12 (by kernel_rfl)
      clear hall hi1 hi2
      subst ge13 ge9 ge12
      have ho2 := ho
      simp only [List.getElem?_toArray, List.getElem?_cons_zero, List.getElem?_cons_succ] at ho2
      have ho3 := Option.some.inj ho2; clear ho2; subst ho3
      obtain ⟨ba0, bb0⟩ := fb0.read; have bl0 := fb0.lt
      obtain ⟨ba1, bb1⟩ := fb1.read; have bl1 := fb1.lt
      simp only [Act.put, List.setIfInBounds_toArray, List.set_cons_zero, List.set_cons_succ]
      simp only [cond_true, cond_false]
      refine inv_op ho (by kernel_rfl) (fun K hK => ?_)
      clear ho
      go_simp
      go_at_call 114; (with_reducible refine (HX.out _).mono ?_); rintro e w1 ⟨rfl, hb⟩
      refine hK.out _ _ ?_
      unfold ROverI
      refine ⟨gg0, gg1, gg2, gg3, gg4, gg5, gg6, gg7, gg8, true, gg10, gg11, true, true, gg14, gg15, gg16, gg17, gg18, gg19, gg20, gg21, gg22, gg23, gg24, gg25, rfl, by simp only [Act.put, List.setIfInBounds_toArray, List.set_cons_zero, List.set_cons_succ, cond_true, cond_false], ?_, ?_, ?_, ?_, ?_⟩
      · exact Blk.later hb fb0
      · exact Blk.later hb fb1
      · exact Blk.later hb fb2
      · exact belowThru fB hb
      · have := hb.size; omega
    · have ge14 : gg14 = false := hi2
      clear hall hi1 hi2
      subst ge14
      have ho2 := ho
      simp only [List.getElem?_toArray, List.getElem?_cons_zero, List.getElem?_cons_succ] at ho2
      have ho3 := Option.some.inj ho2; clear ho2; subst ho3
      obtain ⟨ba0, bb0⟩ := fb0.read; have bl0 := fb0.lt
      obtain ⟨ba1, bb1⟩ := fb1.read; have bl1 := fb1.lt
      simp only [Act.put, List.setIfInBounds_toArray, List.set_cons_zero, List.set_cons_succ]
      simp only [cond_true, cond_false]
      refine inv_op ho (by kernel_rfl) (fun K hK => ?_)
      clear ho
      go_simp
      refine hK.out _ _ ?_
      unfold ROverI
      refine ⟨gg0, gg1, gg2, gg3, gg4, gg5, gg6, gg7, gg8, gg9, gg10, gg11, gg12, gg13, true, gg15, gg16, gg17, gg18, gg19, gg20, gg21, gg22, gg23, gg24, gg25, rfl, by simp only [Act.put, List.setIfInBounds_toArray, List.set_cons_zero, List.set_cons_succ, cond_true, cond_false], ?_, ?_, ?_, ?_, ?_⟩
      · exact fb0
      · exact fb1
      · exact fb2
      · exact fB
      · exact fL
    · have ge15 : gg15 = false := hi2
      have ge14 : gg14 = true := inv_dep ho hall 14 (by kernel_rfl)
      clear hall hi1 hi2
      subst ge15 ge14
      have ho2 := ho
      simp only [List.getElem?_toArray, List.getElem?_cons_zero, List.getElem?_cons_succ] at ho2
      have ho3 := Option.some.inj ho2; clear ho2; subst ho3
      obtain ⟨ba0, bb0⟩ := fb0.read; have bl0 := fb0.lt
      obtain ⟨ba1, bb1⟩ := fb1.read; have bl1 := fb1.lt
      simp only [Act.put, List.setIfInBounds_toArray, List.set_cons_zero, List.set_cons_succ]
      simp only [cond_true, cond_false]
      refine inv_op ho (by kernel_rfl) (fun K hK => ?_)
      clear ho
      go_simp
      refine hK.out _ _ ?_
      unfold ROverI
      refine ⟨gg0, gg1, gg2, gg3, gg4, gg5, gg6, gg7, gg8, gg9, gg10, gg11, gg12, gg13, true, true, gg16, gg17, gg18, gg19, gg20, gg21, gg22, gg23, gg24, gg25, rfl, by simp only [Act.put, List.setIfInBounds_toArray, List.set_cons_zero, List.set_cons_succ, cond_true, cond_false], ?_, ?_, ?_, ?_, ?_⟩
      · exact fb0
      · exact fb1
      · exact fb2
      · exact fB
      · exact fL
    · have ge16 : gg16 = false := hi2
      have ge15 : gg15 = true := inv_dep ho hall 15 (by kernel_rfl)
      clear hall hi1 hi2
      subst ge16 ge15
      have ho2 := ho
      simp only [List.getElem?_toArray, List.getElem?_cons_zero, List.getElem?_cons_succ] at ho2
      have ho3 := Option.some.inj ho2; clear ho2; subst ho3
      obtain ⟨ba0, bb0⟩ := fb0.read; have bl0 := fb0.lt
      obtain ⟨ba1, bb1⟩ := fb1.read; have bl1 := fb1.lt
      simp only [Act.put, List.setIfInBounds_toArray, List.set_cons_zero, List.set_cons_succ]
      simp only [cond_true, cond_false]
      refine inv_op ho (by kernel_rfl) (fun K hK => ?_)
      clear ho
      go_simp
      go_at_call 115; (with_reducible refine (HM3.out _).mono ?_); rintro e w1 ⟨rfl, rfl⟩
      refine hK.out _ _ ?_
      unfold ROverI
      refine ⟨gg0, gg1, gg2, gg3, gg4, gg5, gg6, gg7, gg8, gg9, gg10, gg11, gg12, gg13, gg14, true, true, gg17, gg18, gg19, gg20, gg21, gg22, gg23, gg24, gg25, rfl, by simp only [Act.put, List.setIfInBounds_toArray, List.set_cons_zero, List.set_cons_succ, cond_true, cond_false], ?_, ?_, ?_, ?_, ?_⟩
      · exact fb0
      · exact fb1
      · exact fb2
      · exact fB
      · exact fL
    · have ge17 : gg17 = false := hi2
      clear hall hi1 hi2
      subst ge17
      have ho2 := ho
      simp only [List.getElem?_toArray, List.getElem?_cons_zero, List.getElem?_cons_succ] at ho2
      have ho3 := Option.some.inj ho2; clear ho2; subst ho3
      obtain ⟨ba0, bb0⟩ := fb0.read; have bl0 := fb0.lt
      obtain ⟨ba1, bb1⟩ := fb1.read; have bl1 := fb1.lt
      simp only [Act.put, List.setIfInBounds_toArray, List.set_cons_zero, List.set_cons_succ]
      simp only [cond_true, cond_false]
      refine inv_op ho (by kernel_rfl) (fun K hK => ?_)
      clear ho
      go_simp
      refine hK.out _ _ ?_
      unfold ROverI
      refine ⟨gg0, gg1, gg2, gg3, gg4, gg5, gg6, gg7, gg8, gg9, gg10, gg11, gg12, gg13, gg14, gg15, gg16, true, gg18, gg19, gg20, gg21, gg22, gg23, gg24, gg25, rfl, by simp only [Act.put, List.setIfInBounds_toArray, List.set_cons_zero, List.set_cons_succ, cond_true, cond_false], ?_, ?_, ?_, ?_, ?_⟩
      · exact fb0
      · exact fb1
      · exact fb2
      · exact fB
      · exact fL
    · have ge18 : gg18 = false := hi2
      have ge17 : gg17 = true := inv_dep ho hall 17 (by kernel_rfl)
      clear hall hi1 hi2
      subst ge18 ge17
      have ho2 := ho
      simp only [List.getElem?_toArray, List.getElem?_cons_zero, List.getElem?_cons_succ] at ho2
      have ho3 := Option.some.inj ho2; clear ho2; subst ho3
      obtain ⟨ba0, bb0⟩ := fb0.read; have bl0 := fb0.lt
      obtain ⟨ba1, bb1⟩ := fb1.read; have bl1 := fb1.lt
      simp only [Act.put, List.setIfInBounds_toArray, List.set_cons_zero, List.set_cons_succ]
      simp only [cond_true, cond_false]
      refine inv_op ho (by kernel_rfl) (fun K hK => ?_)
      clear ho
      go_simp
      refine hK.out _ _ ?_
      unfold ROverI
      refine ⟨gg0, gg1, gg2, gg3, gg4, gg5, gg6, gg7, gg8, gg9, gg10, gg11, gg12, gg13, gg14, gg15, gg16, true, true, gg19, gg20, gg21, gg22, gg23, gg24, gg25, rfl, by simp only [Act.put, List.setIfInBounds_toArray, List.set_cons_zero, List.set_cons_succ, cond_true, cond_false], ?_, ?_, ?_, ?_, ?_⟩
      · exact fb0
      · exact fb1
      · exact fb2
      · exact fB
      · exact fL
    · have ge19 : gg19 = false := hi2
      have ge18 : gg18 = true := inv_dep ho hall 18 (by kernel_rfl)
      clear hall hi1 hi2
      subst ge19 ge18
      have ho2 := ho
      simp only [List.getElem?_toArray, List.getElem?_cons_zero, List.getElem?_cons_succ] at ho2
      have ho3 := Option.some.inj ho2; clear ho2; subst ho3
      obtain ⟨ba0, bb0⟩ := fb0.read; have bl0 := fb0.lt
      obtain ⟨ba1, bb1⟩ := fb1.read; have bl1 := fb1.lt
      simp only [Act.put, List.setIfInBounds_toArray, List.set_cons_zero, List.set_cons_succ]
      simp only [cond_true, cond_false]
      refine inv_op ho (by kernel_rfl) (fun K hK => ?_)
      clear ho
      go_simp
      go_at_call 115; (with_reducible refine (HM4.out _).mono ?_); rintro e w1 ⟨rfl, rfl⟩
      refine hK.out _ _ ?_
      unfold ROverI
      refine ⟨gg0, gg1, gg2, gg3, gg4, gg5, gg6, gg7, gg8, gg9, gg10, gg11, gg12, gg13, gg14, gg15, gg16, gg17, true, true, gg20, gg21, gg22, gg23, gg24, gg25, rfl, by simp only [Act.put, List.setIfInBounds_toArray, List.set_cons_zero, List.set_cons_succ, cond_true, cond_false], ?_, ?_, ?_, ?_, ?_⟩
      · exact fb0
      · exact fb1
      · exact fb2
      · exact fB
      · exact fL
    · have ge20 : gg20 = false := hi2
      have ge16 : gg16 = true := inv_dep ho hall 16 (by kernel_rfl)
      have ge19 : gg19 = true := inv_dep ho hall 19 (by kernel_rfl)
      clear hall hi1 hi2
      subst ge20 ge16 ge19
      have ho2 := ho
      simp only [List.getElem?_toArray, List.getElem?_cons_zero, List.getElem?_cons_succ] at ho2
      have ho3 := Option.some.inj ho2; clear ho2; subst ho3
      obtain ⟨ba0, bb0⟩ := fb0.read; have bl0 := fb0.lt
      obtain ⟨ba1, bb1⟩ := fb1.read; have bl1 := fb1.lt
      simp only [Act.put, List.setIfInBounds_toArray, List.set_cons_zero, List.set_cons_succ]
      simp only [cond_true, cond_false]
      refine inv_op ho (by kernel_rfl) (fun K hK => ?_)
      clear ho
      go_simp
      go_at_call 114; (with_reducible refine (HY.out _).mono ?_); rintro e w1 ⟨rfl, hb⟩
      refine hK.out _ _ ?_
      unfold ROverI
      refine ⟨gg0, gg1, gg2, gg3, gg4, gg5, gg6, gg7, gg8, gg9, gg10, gg11, gg12, gg13, gg14, gg15, true, gg17, gg18, true, true, gg21, gg22, gg23, gg24, gg25, rfl, by simp only [Act.put, List.setIfInBounds_toArray, List.set_cons_zero, List.set_cons_succ, cond_true, cond_false], ?_, ?_, ?_, ?_, ?_⟩
      · exact Blk.later hb fb0
      · exact Blk.later hb fb1
      · exact Blk.later hb fb2
      · exact belowThru fB hb
      · have := hb.size; omega
    · have ge21 : gg21 = false := hi2
      have ge6 : gg6 = true := inv_dep ho hall 6 (by kernel_rfl)
      have ge13 : gg13 = true := inv_dep ho hall 13 (by kernel_rfl)
      have ge20 : gg20 = true := inv_dep ho hall 20 (by kernel_rfl)
      clear hall hi1 hi2
      subst ge21 ge6 ge13 ge20
      have ho2 := ho
      simp only [List.getElem?_toArray, List.getElem?_cons_zero, List.getElem?_cons_succ] at ho2
      have ho3 := Option.some.inj ho2; clear ho2; subst ho3
      obtain ⟨ba0, bb0⟩ := fb0.read; have bl0 := fb0.lt
      obtain ⟨ba1, bb1⟩ := fb1.read; have bl1 := fb1.lt
      simp only [Act.put, List.setIfInBounds_toArray, List.set_cons_zero, List.set_cons_succ]
      simp only [cond_true, cond_false]
      refine inv_op ho (by kernel_rfl) (fun K hK => ?_)
      clear ho
      go_simp
      go_at_call 117; (with_reducible refine (HL.out _).mono ?_); rintro e w1 ⟨rfl, hb⟩
      refine hK.out _ _ ?_
      unfold ROverI
      refine ⟨gg0, gg1, gg2, gg3, gg4, gg5, true, gg7, gg8, gg9, gg10, gg11, gg12, true, gg14, gg15, gg16, gg17, gg18, gg19, true, true, gg22, gg23, gg24, gg25, rfl, by simp only [Act.put, List.setIfInBounds_toArray, List.set_cons_zero, List.set_cons_succ, cond_true, cond_false], ?_, ?_, ?_, ?_, ?_⟩
      · exact Blk.later hb fb0
      · exact Blk.later hb fb1
      · exact Blk.later hb fb2
      · exact belowThru fB hb
      · have := hb.size; omega
    · have ge22 : gg22 = false := hi2
      have ge21 : gg21 = true := inv_dep ho hall 21 (by kernel_rfl)
      clear hall hi1 hi2
      subst ge22 ge21
      have ho2 := ho
      simp only [List.getElem?_toArray, List.getElem?_cons_zero, List.getElem?_cons_succ] at ho2
      have ho3 := Option.some.inj ho2; clear ho2; subst ho3
      obtain ⟨ba0, bb0⟩ := fb0.read; have bl0 := fb0.lt
      obtain ⟨ba1, bb1⟩ := fb1.read; have bl1 := fb1.lt
      simp only [Act.put, List.setIfInBounds_toArray, List.set_cons_zero, List.set_cons_succ]
      simp only [cond_true, cond_false]
      refine inv_op ho (by kernel_rfl) (fun K hK => ?_)
      clear ho
      go_simp
      refine hK.out _ _ ?_
      unfold ROverI
      refine ⟨gg0, gg1, gg2, gg3, gg4, gg5, gg6, gg7, gg8, gg9, gg10, gg11, gg12, gg13, gg14, gg15, gg16, gg17, gg18, gg19, gg20, true, true, gg23, gg24, gg25, rfl, by simp only [Act.put, List.setIfInBounds_toArray, List.set_cons_zero, List.set_cons_succ, cond_true, cond_false], ?_, ?_, ?_, ?_, ?_⟩
      · exact fb0
      · exact fb1
      · exact fb2
      · exact fB
      · exact fL
    · have ge23 : gg23 = false := hi2
      have ge21 : gg21 = true := inv_dep ho hall 21 (by kernel_rfl)
      clear hall hi1 hi2
      subst ge23 ge21
      have ho2 := ho
      simp only [List.getElem?_toArray, List.getElem?_cons_zero, List.getElem?_cons_succ] at ho2
      have ho3 := Option.some.inj ho2; clear ho2; subst ho3
      obtain ⟨ba0, bb0⟩ := fb0.read; have bl0 := fb0.lt
      obtain ⟨ba1, bb1⟩ := fb1.read; have bl1 := fb1.lt
      simp only [Act.put, List.setIfInBounds_toArray, List.set_cons_zero, List.set_cons_succ]
      simp only [cond_true, cond_false]
      refine inv_op ho (by kernel_rfl) (fun K hK => ?_)
      clear ho
      go_simp
      refine hK.out _ _ ?_
      unfold ROverI
      refine ⟨gg0, gg1, gg2, gg3, gg4, gg5, gg6, gg7, gg8, gg9, gg10, gg11, gg12, gg13, gg14, gg15, gg16, gg17, gg18, gg19, gg20, true, gg22, true, gg24, gg25, rfl, by simp only [Act.put, List.setIfInBounds_toArray, List.set_cons_zero, List.set_cons_succ, cond_true, cond_false], ?_, ?_, ?_, ?_, ?_⟩
      · exact fb0
      · exact fb1
      · exact fb2
      · exact fB
      · exact fL
    · have ge24 : gg24 = false := hi2
      have ge22 : gg22 = true := inv_dep ho hall 22 (by kernel_rfl)
      clear hall hi1 hi2
      subst ge24 ge22
      have ho2 := ho
      simp only [List.getElem?_toArray, List.getElem?_cons_zero, List.getElem?_cons_succ] at ho2
      have ho3 := Option.some.inj ho2; clear ho2; subst ho3
      simp only [cond_true, cond_false] at fb2
      obtain ⟨ba0, bb0⟩ := fb0.read; have bl0 := fb0.lt
      obtain ⟨ba1, bb1⟩ := fb1.read; have bl1 := fb1.lt
      obtain ⟨ba2, bb2⟩ := fb2.read; have bl2 := fb2.lt
      simp only [Act.put, List.setIfInBounds_toArray, List.set_cons_zero, List.set_cons_succ]
      simp only [cond_true, cond_false]
      refine inv_op ho (by kernel_rfl) (fun K hK => ?_)
      clear ho
      go_simp
      refine hK.out _ _ ?_
      unfold ROverI
      refine ⟨gg0, gg1, gg2, gg3, gg4, gg5, gg6, gg7, gg8, gg9, gg10, gg11, gg12, gg13, gg14, gg15, gg16, gg17, gg18, gg19, gg20, gg21, true, gg23, true, gg25, rfl, by simp only [Act.put, List.setIfInBounds_toArray, List.set_cons_zero, List.set_cons_succ, cond_true, cond_false], ?_, ?_, ?_, ?_, ?_⟩
      · (repeat' (first | (with_reducible assumption) | ((with_reducible refine Blk.new ?_); first | rfl | (simp; done)) | (with_reducible refine Blk.later (by assumption) ?_) | (with_reducible refine Blk.alloc ?_) | (with_reducible refine Blk.drewN ?_) | (with_reducible refine Blk.drew ?_) | (with_reducible refine Blk.other ?_ (by first | omega | (simp; done) | (simp; omega)))))
      · (repeat' (first | (with_reducible assumption) | ((with_reducible refine Blk.new ?_); first | rfl | (simp; done)) | (with_reducible refine Blk.later (by assumption) ?_) | (with_reducible refine Blk.alloc ?_) | (with_reducible refine Blk.drewN ?_) | (with_reducible refine Blk.drew ?_) | (with_reducible refine Blk.other ?_ (by first | omega | (simp; done) | (simp; omega)))))
      · exact Blk.set (Blk.set (fb2))
      · (repeat' (first | (with_reducible exact Below.refl _ _) | (with_reducible assumption) | (with_reducible refine belowThru ?_ (by assumption)) | (with_reducible refine belowAlloc ?_) | (with_reducible refine Below.setCell ?_ (by first | omega | (simp; done) | (simp; omega)) _) | (with_reducible refine Below.drew ?_) | (with_reducible refine below_drewN ?_ _)))
      · first | exact fL | (simp; omega)
    · have ge25 : gg25 = false := hi2
      have ge23 : gg23 = true := inv_dep ho hall 23 (by kernel_rfl)
      clear hall hi1 hi2
      subst ge25 ge23
      have ho2 := ho
      simp only [List.getElem?_toArray, List.getElem?_cons_zero, List.getElem?_cons_succ] at ho2
      have ho3 := Option.some.inj ho2; clear ho2; subst ho3
      obtain ⟨ba0, bb0⟩ := fb0.read; have bl0 := fb0.lt
      obtain ⟨ba1, bb1⟩ := fb1.read; have bl1 := fb1.lt
      simp only [Act.put, List.setIfInBounds_toArray, List.set_cons_zero, List.set_cons_succ]
      simp only [cond_true, cond_false]
      refine inv_op ho (by kernel_rfl) (fun K hK => ?_)
      clear ho
      go_simp
      refine hK.out _ _ ?_
      unfold ROverI
      refine ⟨gg0, gg1, gg2, gg3, gg4, gg5, gg6, gg7, gg8, gg9, gg10, gg11, gg12, gg13, gg14, gg15, gg16, gg17, gg18, gg19, gg20, gg21, gg22, true, gg24, true, rfl, by simp only [Act.put, List.setIfInBounds_toArray, List.set_cons_zero, List.set_cons_succ, cond_true, cond_false], ?_, ?_, ?_, ?_, ?_⟩
      · exact fb0
      · exact fb1
      · exact fb2
      · exact fB
      · exact fL
    · exfalso; simp at hi1; omega
  case hfin =>
    intro a w9 hI
    obtain ⟨gg0, gg1, gg2, gg3, gg4, gg5, gg6, gg7, gg8, gg9, gg10, gg11, gg12, gg13, gg14, gg15, gg16, gg17, gg18, gg19, gg20, gg21, gg22, gg23, gg24, gg25, hL, rfl, fb0, fb1, fb2, fB, fL⟩ := hI
    have hL2 : #[true, true, true, true, true, true, true, true, true, true, true, true, true, true, true, true, true, true, true, true, true, true, true, true, true, true] = #[gg0, gg1, gg2, gg3, gg4, gg5, gg6, gg7, gg8, gg9, gg10, gg11, gg12, gg13, gg14, gg15, gg16, gg17, gg18, gg19, gg20, gg21, gg22, gg23, gg24, gg25] := hL
    cases hL2
    simp only [Act.put, List.setIfInBounds_toArray, List.set_cons_zero, List.set_cons_succ]
    simp only [cond_true]
    go_wp2_with fail
    simp only [cond_true] at fb2
    obtain ⟨ra, rb⟩ := fb2.read
    exact bodyPost_ret (v := .tuple #[.agg #[.int .i64 A, .int .i64 B], .bool ok]) (by simp only [results, Try.results125]; go_simp) rfl ⟨rfl, fB⟩

end Go.Proofs.Ytdimmnoflenfhaa
/-
  The document's own answers, layer 1: order, products, quotients and sums of rational numbers that fit.
-/
namespace Go.Proofs.Ytdimmnoflenfhaa
open Go.RowKit

theorem sg (p : Int) : (p < 0 ∧ p.sign = -1) ∨ (p = 0 ∧ p.sign = 0) ∨ (0 < p ∧ p.sign = 1) := by
  rcases Int.lt_trichotomy p 0 with h | h | h
  · exact .inl ⟨h, Int.sign_eq_neg_one_of_neg h⟩
  · exact .inr (.inl ⟨h, by rw [h]; rfl⟩)
  · exact .inr (.inr ⟨h, Int.sign_eq_one_of_pos h⟩)
theorem sg_mul (n d : Int) (hd : 1 ≤ d) : (n * d).sign = n.sign := by
  rw [Int.sign_mul, Int.sign_eq_one_of_pos (show 0 < d by omega), Int.mul_one]
theorem mag_mul_pos (n d : Int) (hd : 1 ≤ d) : mag n * d = mag (n * d) := by
  have := mag_mul n d
  rwa [mag_pos d (by omega)] at this
theorem mag_sg (p : Int) : (p < 0 → mag p = -p) ∧ (0 ≤ p → mag p = p) := ⟨mag_neg p, mag_pos p⟩

theorem rsize_pos (d : Int) (h : 0 ≤ d) (h2 : d ≤ 9223372036854775807) (w : World) :
    Calls Try.prog 115 #[.int .i64 d] w fun e w' => e = .returned (.int .u64 d) ∧ w = w' := by
  have := rsize_any d (by omega) h2 w
  rwa [mag_pos d h] at this

theorem rorder_q (q r : Rat) (hq : fits q) (hr : fits r) (w : World) :
    Calls Try.prog 95 #[.agg #[.int .i64 (fn q), .int .i64 (fd q)], .agg #[.int .i64 (fn r), .int .i64 (fd r)]] w fun e w' => e = .returned (.int .i64 (ordQ q r)) ∧ Below w.heap.size w w' := by
  have b1 := prod_bound q r hq hr
  have b2 := prod_bound r q hr hq
  have fq := hq; have fr' := hr; unfold fits at fq fr'; obtain ⟨q1, q2, q3⟩ := fq; obtain ⟨r1, r2, r3⟩ := fr'; have q4 := fd_pos q; have r4 := fd_pos r
  have e1 := mag_mul_pos (fn q) (fd r) r4
  have e2 := mag_mul_pos (fn r) (fd q) q4
  have s1 := sg_mul (fn q) (fd r) r4
  have s2 := sg_mul (fn r) (fd q) q4
  have m1 := mag_lo (fn q); have m2 := mag_le (fn q) (by omega) (by omega); have m3 := mag_lo (fn r); have m4 := mag_le (fn r) (by omega) (by omega)
  have ho : ordQ q r = (fn q * fd r - fn r * fd q).sign := rfl
  have HX := Lib.hid (fun w => rtimes_any (mag (fn q)) (fd r) (by omega) (by omega) (by omega) (by omega) w)
  have HY := Lib.hid (fun w => rtimes_any (mag (fn r)) (fd q) (by omega) (by omega) (by omega) (by omega) w)
  rw [e1] at HX
  rw [e2] at HY
  obtain ⟨p, hp⟩ : ∃ p, p = fn q * fd r := ⟨_, rfl⟩
  obtain ⟨p', hp'⟩ : ∃ p', p' = fn r * fd q := ⟨_, rfl⟩
  rw [← hp] at e1 s1 ho b1 HX
  rw [← hp'] at e2 s2 ho b2 HY
  have g1 := mag_sg p; have g2 := mag_sg p'
  have M1 := mag_lo p; have M2 := mag_lo p'
  have M3 : mag p < 340282366920938463463374607431768211456 := by have := mag_natAbs p; omega
  have M4 : mag p' < 340282366920938463463374607431768211456 := by have := mag_natAbs p'; omega
  have hs := same_iff (mag p) (mag p') M1 M3 M2 M4
  refine rorder_walk (fn q) (fd q) (fn r) (fd r) (fn q).sign (fn r).sign ((fn q).sign - (fn r).sign) ((fn q).sign - (fn r).sign).sign (mag (fn q)) (mag (fn r)) (whi (mag p)) (wlo (mag p)) (whi (mag p')) (wlo (mag p')) (ordQ q r) (decide (mag p < mag p')) w
    (Lib.hid (rsign_any _)) (Lib.hid (rsign_any _)) (Lib.hid (rsign_any _)) (Lib.hid (rsize_any _ (by omega) (by omega))) (Lib.hid (rsize_pos _ (by omega) (by omega))) (Lib.hid (rsize_any _ (by omega) (by omega))) (Lib.hid (rsize_pos _ (by omega) (by omega)))
    HX HY (Lib.hid (rless_any _ _ M1 M3 M2 M4)) ?_
  rw [← s1, ← s2, ho]
  have hl : (decide (mag p < mag p') = true ∧ mag p < mag p') ∨ (decide (mag p < mag p') = false ∧ ¬ mag p < mag p') := by
    by_cases h : mag p < mag p'
    · exact .inl ⟨decide_eq_true h, h⟩
    · exact .inr ⟨decide_eq_false h, h⟩
  have k1 := sg p; have k2 := sg p'; have k3 := sg (p - p'); have k4 := sg (p.sign - p'.sign)
  by_cases hne : p.sign = p'.sign
  · refine .inr ⟨by rw [hne]; simp, ?_⟩
    by_cases hX : mag p = mag p'
    · exact .inl ⟨(hs.2 hX).1, (hs.2 hX).2, by omega⟩
    · refine .inr ⟨?_, ?_⟩
      · by_cases h : whi (mag p) = whi (mag p')
        · exact .inr ⟨h, fun k => hX (hs.1 ⟨h, k⟩)⟩
        · exact .inl h
      · rcases hl with ⟨l1, l2⟩ | ⟨l1, l2⟩
        · exact .inl ⟨l1, by rw [IntWalk.i64_in _ (by omega)]; omega⟩
        · exact .inr ⟨l1, by omega⟩
  · exact .inl ⟨by simpa using hne, IntWalk.i64_in _ (by omega), by omega⟩

theorem mkR_mul (q r : Rat) : mkR (fn q * fn r) (fd q * fd r) = q * r := by
  conv => rhs; rw [← mkR_self q, ← mkR_self r]
  unfold mkR
  rw [Rat.divInt_mul_divInt]
theorem mkR_add (q r : Rat) : mkR (fn q * fd r + fn r * fd q) (fd q * fd r) = q + r := by
  conv => rhs; rw [← mkR_self q, ← mkR_self r]
  unfold mkR
  rw [Rat.divInt_add_divInt _ _ (fd_ne q) (fd_ne r)]

/-- A fraction in lowest terms, as the calls hand it on. -/
theorem rtimes_q (q r : Rat) (hq : fits q) (hr : fits r) (w : World) :
    Calls Try.prog 97 #[.agg #[.int .i64 (fn q), .int .i64 (fd q)], .agg #[.int .i64 (fn r), .int .i64 (fd r)]] w fun e w' => e = .returned (.tuple #[.agg #[.int .i64 (rn (q * r)), .int .i64 (rd (q * r))], .bool (decide (re (q * r) = 0))]) ∧ Below w.heap.size w w' := by
  have fq := hq; have fr' := hr; unfold fits at fq fr'; obtain ⟨q1, q2, q3⟩ := fq; obtain ⟨r1, r2, r3⟩ := fr'; have q4 := fd_pos q; have r4 := fd_pos r
  have m1 := mag_lo (fn q); have m2 := mag_le (fn q) (by omega) (by omega); have m3 := mag_lo (fn r); have m4 := mag_le (fn r) (by omega) (by omega)
  have c1 := mag_mul_bound (mag (fn q)) (mag (fn r)) m1 m2 m3 m4
  have c2 := mag_mul_bound (fd q) (fd r) (by omega) (by omega) (by omega) (by omega)
  have c3 : 1 ≤ fd q * fd r := by have := Int.mul_pos (show 0 < fd q by omega) (show 0 < fd r by omega); omega
  have k1 := sg (fn q); have k2 := sg (fn r)
  have hb := mul_bound (fn q).sign (fn r).sign 1 1 (by omega) (by omega) (by omega) (by omega)
  have hx : q * r = mkR (if (fn q).sign * (fn r).sign < 0 then -(mag (fn q) * mag (fn r)) else mag (fn q) * mag (fn r)) (fd q * fd r) := by
    rw [← mkR_mul, mag_mul, ← Int.sign_mul]
    congr 1
    have := sg (fn q * fn r)
    have g := mag_sg (fn q * fn r)
    split <;> omega
  exact rtimes_walk (fn q) (fd q) (fn r) (fd r) (fn q).sign (fn r).sign ((fn q).sign * (fn r).sign) (mag (fn q)) (mag (fn r)) (fd q) (fd r) _ _ _ _ _ _ _ w (IntWalk.i64_in _ (by omega))
    (Lib.hid (rsign_any _)) (Lib.hid (rsign_any _)) (Lib.hid (rsize_any _ (by omega) (by omega))) (Lib.hid (rsize_any _ (by omega) (by omega))) (Lib.hid (rsize_pos _ (by omega) (by omega))) (Lib.hid (rsize_pos _ (by omega) (by omega)))
    (Lib.hid (fun w => rtimes_any _ _ (by omega) (by omega) (by omega) (by omega) w)) (Lib.hid (fun w => rtimes_any _ _ (by omega) (by omega) (by omega) (by omega) w))
    (Lib.hid (lowest_q (q * r) _ _ _ c1.1 (by omega) c3 (by omega) hx))

theorem rover_q (q r : Rat) (hq : fits q) (hr : fits r) (h0 : fn r ≠ 0) (w : World) :
    Calls Try.prog 125 #[.agg #[.int .i64 (fn q), .int .i64 (fd q)], .agg #[.int .i64 (fn r), .int .i64 (fd r)]] w fun e w' => e = .returned (.tuple #[.agg #[.int .i64 (rn (q / r)), .int .i64 (rd (q / r))], .bool (decide (re (q / r) = 0))]) ∧ Below w.heap.size w w' := by
  have fq := hq; have fr' := hr; unfold fits at fq fr'; obtain ⟨q1, q2, q3⟩ := fq; obtain ⟨r1, r2, r3⟩ := fr'; have q4 := fd_pos q; have r4 := fd_pos r
  have m1 := mag_lo (fn q); have m2 := mag_le (fn q) (by omega) (by omega); have m3 := mag_lo (fn r); have m4 := mag_le (fn r) (by omega) (by omega)
  have c1 := mag_mul_bound (mag (fn q)) (fd r) m1 m2 (by omega) (by omega)
  have c2 := mag_mul_bound (fd q) (mag (fn r)) (by omega) (by omega) m3 m4
  have m5 : 1 ≤ mag (fn r) := by have := mag_natAbs (fn r); omega
  have c3 : 1 ≤ fd q * mag (fn r) := by have := Int.mul_pos (show 0 < fd q by omega) (show 0 < mag (fn r) by omega); omega
  have k1 := sg (fn q); have k2 := sg (fn r)
  have hb := mul_bound (fn q).sign (fn r).sign 1 1 (by omega) (by omega) (by omega) (by omega)
  have hx : q / r = mkR (if (fn q).sign * (fn r).sign < 0 then -(mag (fn q) * fd r) else mag (fn q) * fd r) (fd q * mag (fn r)) := by
    rw [Rat.div_def, ← mkR_mul, mag_mul_pos _ _ r4]
    obtain ⟨i1, i2⟩ := inv_parts r h0
    have g := mag_sg (fn q * fd r)
    have k3 := sg (fn q * fd r)
    have k4 := sg_mul (fn q) (fd r) r4
    rcases k2 with ⟨n1, n2⟩ | ⟨n1, n2⟩ | ⟨n1, n2⟩
    · rw [(i1 n1).1, (i1 n1).2, mag_neg _ n1, n2, Int.mul_neg, Int.mul_neg_one]
      congr 1
      split <;> omega
    · exact absurd n1 h0
    · rw [(i2 (by omega)).1, (i2 (by omega)).2, mag_pos (fn r) (by omega), n2, Int.mul_one]
      congr 1
      split <;> omega
  exact rover_walk (fn q) (fd q) (fn r) (fd r) (fn q).sign (fn r).sign ((fn q).sign * (fn r).sign) (mag (fn q)) (fd r) (fd q) (mag (fn r)) _ _ _ _ _ _ _ w (IntWalk.i64_in _ (by omega))
    (Lib.hid (rsign_any _)) (Lib.hid (rsign_any _)) (Lib.hid (rsize_any _ (by omega) (by omega))) (Lib.hid (rsize_pos _ (by omega) (by omega))) (Lib.hid (rsize_pos _ (by omega) (by omega))) (Lib.hid (rsize_any _ (by omega) (by omega)))
    (Lib.hid (fun w => rtimes_any _ _ (by omega) (by omega) (by omega) (by omega) w)) (Lib.hid (fun w => rtimes_any _ _ (by omega) (by omega) (by omega) (by omega) w))
    (Lib.hid (lowest_q (q / r) _ _ _ c1.1 (by omega) c3 (by omega) hx))
end Go.Proofs.Ytdimmnoflenfhaa
/-
  The document's own answers, layer 1: what its calls return of numbers and of fractions.
-/
namespace Go.Proofs.Ytdimmnoflenfhaa
open Go.RowKit

set_option maxHeartbeats 400000 in
theorem rneg_q (r : Rat) (hr : fits r) (w : World) :
    Calls Try.prog 92 #[.agg #[.int .i64 (fn r), .int .i64 (fd r)]] w fun e w' => e = .returned (.agg #[.int .i64 (fn (-r)), .int .i64 (fd (-r))]) ∧ Below w.heap.size w w' := by
  have e1 : fn (-r) = -fn r := rfl
  have e2 : fd (-r) = fd r := rfl
  have e3 : IntKind.i64.wrap (-fn r) = -fn r := IntWalk.i64_in _ (by unfold fits at hr; omega)
  rw [e1, e2]
  clear hr e1 e2
  go_enter Try.func92, Try.ntmps92
  go_wp2
  exact bodyPost_ret (v := .agg #[.int .i64 (-fn r), .int .i64 (fd r)]) (by simp only [results, Try.results92]; go_simp) rfl ⟨rfl, by (repeat' (first | (with_reducible exact Below.refl _ _) | (with_reducible assumption) | (with_reducible refine belowThru ?_ (by assumption)) | (with_reducible refine belowAlloc ?_) | (with_reducible refine Below.setCell ?_ (by first | omega | (simp; done) | (simp; omega)) _) | (with_reducible refine Below.drew ?_) | (with_reducible refine below_drewN ?_ _)))⟩
theorem fits_neg (r : Rat) (hr : fits r) : fits (-r) := by
  unfold fits at *
  have e1 : fn (-r) = -fn r := rfl
  have e2 : fd (-r) = fd r := rfl
  omega

/-- Two fractions one of which is not valid: what Valid says of them in turn. -/
structure Bad2 (a b c d : Int) (p q : Bool) : Prop where
  one : ∀ w, Calls Try.prog 94 #[.agg #[.int .i64 a, .int .i64 b]] w fun e w' => e = .returned (.bool p) ∧ Below w.heap.size w w'
  two : ∀ w, Calls Try.prog 94 #[.agg #[.int .i64 c, .int .i64 d]] w fun e w' => e = .returned (.bool q) ∧ Below w.heap.size w w'
  no : p = false ∨ (p = true ∧ q = false)
theorem valid_cases (a b : Int) (ha1 : -9223372036854775808 ≤ a) (ha2 : a ≤ 9223372036854775807) : ∃ p : Bool, (p = true ↔ okF a b) ∧ ∀ w, Calls Try.prog 94 #[.agg #[.int .i64 a, .int .i64 b]] w fun e w' => e = .returned (.bool p) ∧ Below w.heap.size w w' := by
  by_cases h : okF a b
  · obtain ⟨q, fq, rfl, rfl⟩ := (okF_iff _ _).1 h
    exact ⟨true, ⟨fun _ => h, fun _ => rfl⟩, rvalid_true q fq⟩
  · exact ⟨false, ⟨fun k => Bool.noConfusion k, fun k => absurd k h⟩, rvalid_false a b h ha1 ha2⟩
end Go.Proofs.Ytdimmnoflenfhaa
