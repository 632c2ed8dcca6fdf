/-
  The texts that the laws of this seat share, merged: part 2.
-/
import Derived.BigQuiet
import Derived.Deep.CutBlock
import Derived.Deep.DeepCutAuto
import Derived.Deep.Draws
import Derived.Deep.LoopGhost
import Derived.Deep.OwnRows
import Derived.Deep.QuietTactic
import Derived.Deep.RegionHeld3
import Derived.Deep.RegionLaw
import Derived.IntWalk
import Derived.Laws.AppendOwn
import Derived.Laws.Bits64b
import Derived.Lib.Hide
import Derived.Lib.ItoaNum
import Derived.LoopIn
import Derived.LoopNIn
import Derived.LoopTactic
import Derived.OneCell
import Derived.Orders
import Derived.OwnWalkIn
import Derived.RangeFuncBound
import Derived.RangeFuncCalls
import Derived.RangeFuncLeaves
import Derived.RangeFuncNested
import Derived.Shelf.Abstract
import Derived.Shelf.AbstractIn
import Derived.Shelf.Bits.Mul64
import Derived.Shelf.RegionOpen
import Derived.Shelf.Small.Bits
import Derived.Shelf.Spec.BitsCarry
import Derived.Shelf.Strconv.Itoa0
import Derived.TacticsInMore
import Derived.Test.YtbcgebobfnclnaaProg
import Derived.WalkKit
import Derived.WalkLawsBesides
import Derived.WalkSmall
import Derived.WalkSpells
import Derived.Test.YtbcgebobfnclnaaM1
import Derived.Test.YtbcgebobfnclnaaM2
import Derived.Test.YtbcgebobfnclnaaM3
import Derived.Test.YtbcgebobfnclnaaM4
import Derived.Test.YtbcgebobfnclnaaM5
import Derived.Test.YtbcgebobfnclnaaM6
import Derived.Test.YtbcgebobfnclnaaM7
import Derived.Test.YtbcgebobfnclnaaM8
/-
  The document's own answers, layer 1: the order of fractions.
-/
namespace Go.Proofs.Ytbcgebobfnclnaa
open Go.RowKit

/-- What holds of the region whichever operations have come up. -/
def ROrderI (a b c d m1 m2 X1 X0 Y1 Y0 : Int) (w : World) (i22 i23 i24 i25 i26 i27 i28 i29 i30 i31 i32 i33 i34 i35 i5 i6 : Value) (b9 : Act) (L9 : Array Bool) (a9 : Act) (w9 : World) : Prop :=
  ∃ (gg0 gg1 gg2 gg3 gg4 gg5 gg6 gg7 gg8 gg9 gg10 gg11 gg12 gg13 gg14 gg15 gg16 gg17 : Bool) (x14 x15 : Nat), L9 = #[gg0, gg1, gg2, gg3, gg4, gg5, gg6, gg7, gg8, gg9, gg10, gg11, gg12, gg13, gg14, gg15, gg16, gg17] ∧ a9 = ((((((((((((((((b9).put (some 22) (cond gg0 (.pointer (some ⟨w.heap.size, 0, none⟩)) (i22))).put (some 23) (cond gg1 (.int .i64 a) (i23))).put (some 24) (cond gg2 (.int .u64 m1) (i24))).put (some 25) (cond gg3 (.pointer (some ⟨(w.heap.size + 1), 1, none⟩)) (i25))).put (some 26) (cond gg4 (.int .i64 d) (i26))).put (some 27) (cond gg5 (.int .u64 d) (i27))).put (some 28) (cond gg6 (.agg #[.int .u64 X1, .int .u64 X0]) (i28))).put (some 29) (cond gg7 (.pointer (some ⟨(w.heap.size + 1), 0, none⟩)) (i29))).put (some 30) (cond gg8 (.int .i64 c) (i30))).put (some 31) (cond gg9 (.int .u64 m2) (i31))).put (some 32) (cond gg10 (.pointer (some ⟨w.heap.size, 1, none⟩)) (i32))).put (some 33) (cond gg11 (.int .i64 b) (i33))).put (some 34) (cond gg12 (.int .u64 b) (i34))).put (some 35) (cond gg13 (.agg #[.int .u64 Y1, .int .u64 Y0]) (i35))).put (some 5) (cond gg14 (.pointer (some ⟨x14, 0, none⟩)) (i5))).put (some 6) (cond gg15 (.pointer (some ⟨x15, 0, none⟩)) (i6)) ∧ Blk w9 w.heap.size #[.int .i64 a, .int .i64 b] 23 ∧ Blk w9 (w.heap.size + 1) #[.int .i64 c, .int .i64 d] 23 ∧ Below w.heap.size w w9 ∧ (w.heap.size + 1 + 1) ≤ w9.heap.size ∧ (gg14 = true → Blk w9 x14 (cond gg16 #[.int .u64 X1, .int .u64 X0] #[.int .u64 0, .int .u64 0]) 160 ∧ (w.heap.size + 1 + 1) ≤ x14) ∧ (gg15 = true → Blk w9 x15 (cond gg17 #[.int .u64 Y1, .int .u64 Y0] #[.int .u64 0, .int .u64 0]) 160 ∧ (w.heap.size + 1 + 1) ≤ x15) ∧ (gg14 = true → gg15 = true → x14 ≠ x15) ∧ (gg16 = true → gg14 = true) ∧ (gg17 = true → gg15 = true)

set_option maxRecDepth 100000 in
set_option maxHeartbeats 8000000 in
set_option linter.unusedSimpArgs false in
theorem rorder_walk (a b c d s t y z m1 m2 X1 X0 Y1 Y0 o : Int) (lt : Bool) (w : World)
    (HS1 : Hid (∀ w, Calls Try.prog 133 #[.int .i64 a] w fun e w' => e = .returned (.int .i64 s) ∧ w = w'))
    (HS2 : Hid (∀ w, Calls Try.prog 133 #[.int .i64 c] w fun e w' => e = .returned (.int .i64 t) ∧ w = w'))
    (HS3 : Hid (∀ w, Calls Try.prog 133 #[.int .i64 y] w fun e w' => e = .returned (.int .i64 z) ∧ w = w'))
    (HM1 : Hid (∀ w, Calls Try.prog 132 #[.int .i64 a] w fun e w' => e = .returned (.int .u64 m1) ∧ w = w'))
    (HD : Hid (∀ w, Calls Try.prog 132 #[.int .i64 d] w fun e w' => e = .returned (.int .u64 d) ∧ w = w'))
    (HM2 : Hid (∀ w, Calls Try.prog 132 #[.int .i64 c] w fun e w' => e = .returned (.int .u64 m2) ∧ w = w'))
    (HB : Hid (∀ w, Calls Try.prog 132 #[.int .i64 b] w fun e w' => e = .returned (.int .u64 b) ∧ w = w'))
    (HX : Hid (∀ w, Calls Try.prog 131 #[.int .u64 m1, .int .u64 d] w fun e w' => e = .returned (.agg #[.int .u64 X1, .int .u64 X0]) ∧ Below w.heap.size w w'))
    (HY : Hid (∀ w, Calls Try.prog 131 #[.int .u64 m2, .int .u64 b] w fun e w' => e = .returned (.agg #[.int .u64 Y1, .int .u64 Y0]) ∧ Below w.heap.size w w'))
    (HL : Hid (∀ w, Calls Try.prog 136 #[.agg #[.int .u64 X1, .int .u64 X0], .agg #[.int .u64 Y1, .int .u64 Y0]] w fun e w' => e = .returned (.bool lt) ∧ Below w.heap.size w w'))
    (hv : ((s != t) = true ∧ IntKind.i64.wrap (s - t) = y ∧ z = o) ∨ ((s != t) = false ∧ ((X1 = Y1 ∧ X0 = Y0 ∧ o = 0) ∨ ((¬ X1 = Y1 ∨ (X1 = Y1 ∧ ¬ X0 = Y0)) ∧ ((lt = true ∧ IntKind.i64.wrap (-s) = o) ∨ (lt = false ∧ s = o)))))) :
    Calls Try.prog 116 #[.agg #[.int .i64 a, .int .i64 b], .agg #[.int .i64 c, .int .i64 d]] w fun e w' => e = .returned (.int .i64 o) ∧ Below w.heap.size w w' := by
  rcases hv with ⟨h1, h2, rfl⟩ | ⟨h1, hv⟩
  · clear HM1 HD HM2 HB HX HY HL
    go_enter Try.func116, Try.ntmps116
    go_wp2
    go_region_held3 (fun w' => (Blk w' w.heap.size #[.int .i64 a, .int .i64 b] 23 ∧ (∀ i : Nat, w'.cell? ⟨w.heap.size, i, none⟩ = (#[.int .i64 a, .int .i64 b] : Array Value)[i]?)) ∧ (Blk w' (w.heap.size + 1) #[.int .i64 c, .int .i64 d] 23 ∧ (∀ i : Nat, w'.cell? ⟨w.heap.size + 1, i, none⟩ = (#[.int .i64 c, .int .i64 d] : Array Value)[i]?)) ∧ Below w.heap.size w w')
      (((first | (apply hold2; (focus assumption); intro p0 p1 pB) | skip); refine ⟨Blk.full ?_, Blk.full ?_, ?_⟩; all_goals (first | ((repeat' (first | (with_reducible assumption) | ((with_reducible refine Blk.new ?_); first | rfl | (simp; done)) | (with_reducible refine Blk.later (by assumption) ?_) | (with_reducible refine Blk.alloc ?_) | (with_reducible refine Blk.drewN ?_) | (with_reducible refine Blk.drew ?_) | (with_reducible refine Blk.other ?_ (by first | omega | (simp; done) | (simp; omega))))); done) | ((repeat' (first | (with_reducible exact Below.refl _ _) | (with_reducible assumption) | (with_reducible refine belowThru ?_ (by assumption)) | (with_reducible refine belowAlloc ?_) | (with_reducible refine Below.setCell ?_ (by first | omega | (simp; done) | (simp; omega)) _) | (with_reducible refine Below.drew ?_) | (with_reducible refine below_drewN ?_ _))); done))))
      (first
      | (go_at_call 133; (with_reducible refine (HS1.out _).mono ?_); rintro e w1 ⟨rfl, rfl⟩)
      | (go_at_call 133; (with_reducible refine (HS2.out _).mono ?_); rintro e w1 ⟨rfl, rfl⟩))
    all_goals
      apply hold2; (focus assumption); intro k0 k1 pB
      obtain ⟨a0, b0⟩ := k0.read; obtain ⟨a1, b1⟩ := k1.read
      have zk0 := k0.lt; have zk1 := k1.lt
      go_wp2_with fail
      go_region_held3 (fun w' => (Blk w' w.heap.size #[.int .i64 a, .int .i64 b] 23 ∧ (∀ i : Nat, w'.cell? ⟨w.heap.size, i, none⟩ = (#[.int .i64 a, .int .i64 b] : Array Value)[i]?)) ∧ (Blk w' (w.heap.size + 1) #[.int .i64 c, .int .i64 d] 23 ∧ (∀ i : Nat, w'.cell? ⟨w.heap.size + 1, i, none⟩ = (#[.int .i64 c, .int .i64 d] : Array Value)[i]?)) ∧ Below w.heap.size w w')
        (((first | (apply hold2; (focus assumption); intro p0 p1 pB) | skip); refine ⟨Blk.full ?_, Blk.full ?_, ?_⟩; all_goals (first | ((repeat' (first | (with_reducible assumption) | ((with_reducible refine Blk.new ?_); first | rfl | (simp; done)) | (with_reducible refine Blk.later (by assumption) ?_) | (with_reducible refine Blk.alloc ?_) | (with_reducible refine Blk.drewN ?_) | (with_reducible refine Blk.drew ?_) | (with_reducible refine Blk.other ?_ (by first | omega | (simp; done) | (simp; omega))))); done) | ((repeat' (first | (with_reducible exact Below.refl _ _) | (with_reducible assumption) | (with_reducible refine belowThru ?_ (by assumption)) | (with_reducible refine belowAlloc ?_) | (with_reducible refine Below.setCell ?_ (by first | omega | (simp; done) | (simp; omega)) _) | (with_reducible refine Below.drew ?_) | (with_reducible refine below_drewN ?_ _))); done))))
        (first
        | (go_at_call 133; (with_reducible refine (HS1.out _).mono ?_); rintro e w1 ⟨rfl, rfl⟩)
        | (go_at_call 133; (with_reducible refine (HS2.out _).mono ?_); rintro e w1 ⟨rfl, rfl⟩)
        | (go_at_call 133; (with_reducible refine (HS3.out _).mono ?_); rintro e w1 ⟨rfl, rfl⟩))
      all_goals
        apply hold2; (focus assumption); intro p0 p1 pB
        go_wp2_with fail
        go_ret
        exact ⟨rfl, by (repeat' (first | (with_reducible exact Below.refl _ _) | (with_reducible assumption) | (with_reducible refine belowThru ?_ (by assumption)) | (with_reducible refine belowAlloc ?_) | (with_reducible refine Below.setCell ?_ (by first | omega | (simp; done) | (simp; omega)) _) | (with_reducible refine Below.drew ?_) | (with_reducible refine below_drewN ?_ _)))⟩
  · clear HS3
    go_enter Try.func116, Try.ntmps116
    go_wp2
    go_region_held3 (fun w' => (Blk w' w.heap.size #[.int .i64 a, .int .i64 b] 23 ∧ (∀ i : Nat, w'.cell? ⟨w.heap.size, i, none⟩ = (#[.int .i64 a, .int .i64 b] : Array Value)[i]?)) ∧ (Blk w' (w.heap.size + 1) #[.int .i64 c, .int .i64 d] 23 ∧ (∀ i : Nat, w'.cell? ⟨w.heap.size + 1, i, none⟩ = (#[.int .i64 c, .int .i64 d] : Array Value)[i]?)) ∧ Below w.heap.size w w')
      (((first | (apply hold2; (focus assumption); intro p0 p1 pB) | skip); refine ⟨Blk.full ?_, Blk.full ?_, ?_⟩; all_goals (first | ((repeat' (first | (with_reducible assumption) | ((with_reducible refine Blk.new ?_); first | rfl | (simp; done)) | (with_reducible refine Blk.later (by assumption) ?_) | (with_reducible refine Blk.alloc ?_) | (with_reducible refine Blk.drewN ?_) | (with_reducible refine Blk.drew ?_) | (with_reducible refine Blk.other ?_ (by first | omega | (simp; done) | (simp; omega))))); done) | ((repeat' (first | (with_reducible exact Below.refl _ _) | (with_reducible assumption) | (with_reducible refine belowThru ?_ (by assumption)) | (with_reducible refine belowAlloc ?_) | (with_reducible refine Below.setCell ?_ (by first | omega | (simp; done) | (simp; omega)) _) | (with_reducible refine Below.drew ?_) | (with_reducible refine below_drewN ?_ _))); done))))
      (first
      | (go_at_call 133; (with_reducible refine (HS1.out _).mono ?_); rintro e w1 ⟨rfl, rfl⟩)
      | (go_at_call 133; (with_reducible refine (HS2.out _).mono ?_); rintro e w1 ⟨rfl, rfl⟩))
    all_goals
      apply hold2; (focus assumption); intro k0 k1 pB
      obtain ⟨a0, b0⟩ := k0.read; obtain ⟨a1, b1⟩ := k1.read
      have zk0 := k0.lt; have zk1 := k1.lt
      go_upto_region 3 with fail
      go_cut [5, 6] (fun s5 s6 wx => At2 wx (w.heap.size + 1 + 1) #[.int .u64 X1, .int .u64 X0] #[.int .u64 Y1, .int .u64 Y0] 160 s5 s6 ∧ Blk wx w.heap.size #[.int .i64 a, .int .i64 b] 23 ∧ Blk wx (w.heap.size + 1) #[.int .i64 c, .int .i64 d] 23 ∧ Below w.heap.size w wx)
      case first =>
        refine wp_region_inv (ROrderI a b c d m1 m2 X1 X0 Y1 Y0 w ?i22 ?i23 ?i24 ?i25 ?i26 ?i27 ?i28 ?i29 ?i30 ?i31 ?i32 ?i33 ?i34 ?i35 ?i5 ?i6) (by kernel_rfl) (by kernel_rfl) ?hsz ?hst ?hstep ?hfin
        case hst =>
          unfold ROrderI
          refine ⟨false, false, false, false, false, false, false, false, false, false, false, false, false, false, false, false, false, false, 0, 0, rfl, ?_, ?_, ?_, ?_, ?_, ?_, ?_, ?_, ?_, ?_⟩
          · first | (simp only [Act.put, List.setIfInBounds_toArray, List.set_cons_zero, List.set_cons_succ, cond_false]; done) | (simp only [Act.put, List.setIfInBounds_toArray, List.set_cons_zero, List.set_cons_succ, cond_false]; rfl)
          all_goals (first | (intro h; cases h; done) | ((repeat' (first | (with_reducible assumption) | ((with_reducible refine Blk.new ?_); first | rfl | (simp; done)) | (with_reducible refine Blk.later (by assumption) ?_) | (with_reducible refine Blk.alloc ?_) | (with_reducible refine Blk.drewN ?_) | (with_reducible refine Blk.drew ?_) | (with_reducible refine Blk.other ?_ (by first | omega | (simp; done) | (simp; omega))))); done) | ((repeat' (first | (with_reducible exact Below.refl _ _) | (with_reducible assumption) | (with_reducible refine belowThru ?_ (by assumption)) | (with_reducible refine belowAlloc ?_) | (with_reducible refine Below.setCell ?_ (by first | omega | (simp; done) | (simp; omega)) _) | (with_reducible refine Below.drew ?_) | (with_reducible refine below_drewN ?_ _))); done) | (simp only [cond_false]; (repeat' (first | (with_reducible assumption) | ((with_reducible refine Blk.new ?_); first | rfl | (simp; done)) | (with_reducible refine Blk.later (by assumption) ?_) | (with_reducible refine Blk.alloc ?_) | (with_reducible refine Blk.drewN ?_) | (with_reducible refine Blk.drew ?_) | (with_reducible refine Blk.other ?_ (by first | omega | (simp; done) | (simp; omega))))); done) | (simp only [World.size_drew]; omega) | (simp only [World.size_drew] at *; omega) | (simp; done) | (simp; omega))
        case hsz =>
          intro L a w9 h
          obtain ⟨gg0, gg1, gg2, gg3, gg4, gg5, gg6, gg7, gg8, gg9, gg10, gg11, gg12, gg13, gg14, gg15, gg16, gg17, x14, x15, rfl, -⟩ := h; rfl
        case hstep =>
          intro L a w9 hI i hi
          obtain ⟨gg0, gg1, gg2, gg3, gg4, gg5, gg6, gg7, gg8, gg9, gg10, gg11, gg12, gg13, gg14, gg15, gg16, gg17, x14, x15, rfl, rfl, fb0, fb1, fB, fL, f14, f15, d14_15, s14, s15⟩ := hI
          obtain ⟨hi1, hi2, o, ho, hall⟩ := inv_mem hi
          clear hi
          rcases i with _ | _ | _ | _ | _ | _ | _ | _ | _ | _ | _ | _ | _ | _ | _ | _ | _ | _ | i
          · have ge0 : gg0 = false := hi2
            clear hall hi1 hi2
            subst ge0
            have ho2 := ho
            simp only [List.getElem?_toArray, List.getElem?_cons_zero, List.getElem?_cons_succ] at ho2
            have ho3 := Option.some.inj ho2; clear ho2; subst ho3
            obtain ⟨ba0, bb0⟩ := fb0.read; have bl0 := fb0.lt
            obtain ⟨ba1, bb1⟩ := fb1.read; have bl1 := fb1.lt
            simp only [Act.put, List.setIfInBounds_toArray, List.set_cons_zero, List.set_cons_succ]
            simp only [cond_true, cond_false]
            refine inv_op ho (by kernel_rfl) (fun K hK => ?_)
            clear ho
            go_simp
            refine hK.out _ _ ?_
            unfold ROrderI
            refine ⟨true, gg1, gg2, gg3, gg4, gg5, gg6, gg7, gg8, gg9, gg10, gg11, gg12, gg13, gg14, gg15, gg16, gg17, x14, x15, rfl, by simp only [Act.put, List.setIfInBounds_toArray, List.set_cons_zero, List.set_cons_succ, cond_true, cond_false], ?_, ?_, ?_, ?_, ?_, ?_, ?_, ?_, ?_⟩
            · exact fb0
            · exact fb1
            · exact fB
            · exact fL
            · exact f14
            · exact f15
            · exact d14_15
            · exact s14
            · exact s15
          · have ge1 : gg1 = false := hi2
            have ge0 : gg0 = true := inv_dep ho hall 0 (by kernel_rfl)
            clear hall hi1 hi2
            subst ge1 ge0
            have ho2 := ho
            simp only [List.getElem?_toArray, List.getElem?_cons_zero, List.getElem?_cons_succ] at ho2
            have ho3 := Option.some.inj ho2; clear ho2; subst ho3
            obtain ⟨ba0, bb0⟩ := fb0.read; have bl0 := fb0.lt
            obtain ⟨ba1, bb1⟩ := fb1.read; have bl1 := fb1.lt
            simp only [Act.put, List.setIfInBounds_toArray, List.set_cons_zero, List.set_cons_succ]
            simp only [cond_true, cond_false]
            refine inv_op ho (by kernel_rfl) (fun K hK => ?_)
            clear ho
            go_simp
            refine hK.out _ _ ?_
            unfold ROrderI
            refine ⟨true, true, gg2, gg3, gg4, gg5, gg6, gg7, gg8, gg9, gg10, gg11, gg12, gg13, gg14, gg15, gg16, gg17, x14, x15, rfl, by simp only [Act.put, List.setIfInBounds_toArray, List.set_cons_zero, List.set_cons_succ, cond_true, cond_false], ?_, ?_, ?_, ?_, ?_, ?_, ?_, ?_, ?_⟩
            · exact fb0
            · exact fb1
            · exact fB
            · exact fL
            · exact f14
            · exact f15
            · exact d14_15
            · exact s14
            · exact s15
          · have ge2 : gg2 = false := hi2
            have ge1 : gg1 = true := inv_dep ho hall 1 (by kernel_rfl)
            clear hall hi1 hi2
            subst ge2 ge1
            have ho2 := ho
            simp only [List.getElem?_toArray, List.getElem?_cons_zero, List.getElem?_cons_succ] at ho2
            have ho3 := Option.some.inj ho2; clear ho2; subst ho3
            obtain ⟨ba0, bb0⟩ := fb0.read; have bl0 := fb0.lt
            obtain ⟨ba1, bb1⟩ := fb1.read; have bl1 := fb1.lt
            simp only [Act.put, List.setIfInBounds_toArray, List.set_cons_zero, List.set_cons_succ]
            simp only [cond_true, cond_false]
            refine inv_op ho (by kernel_rfl) (fun K hK => ?_)
            clear ho
            go_simp
            go_at_call 132; (with_reducible refine (HM1.out _).mono ?_); rintro e w1 ⟨rfl, rfl⟩
            refine hK.out _ _ ?_
            unfold ROrderI
            refine ⟨gg0, true, true, gg3, gg4, gg5, gg6, gg7, gg8, gg9, gg10, gg11, gg12, gg13, gg14, gg15, gg16, gg17, x14, x15, rfl, by simp only [Act.put, List.setIfInBounds_toArray, List.set_cons_zero, List.set_cons_succ, cond_true, cond_false], ?_, ?_, ?_, ?_, ?_, ?_, ?_, ?_, ?_⟩
            · exact fb0
            · exact fb1
            · exact fB
            · exact fL
            · exact f14
            · exact f15
            · exact d14_15
            · exact s14
            · exact s15
          · have ge3 : gg3 = false := hi2
            clear hall hi1 hi2
            subst ge3
            have ho2 := ho
            simp only [List.getElem?_toArray, List.getElem?_cons_zero, List.getElem?_cons_succ] at ho2
            have ho3 := Option.some.inj ho2; clear ho2; subst ho3
            obtain ⟨ba0, bb0⟩ := fb0.read; have bl0 := fb0.lt
            obtain ⟨ba1, bb1⟩ := fb1.read; have bl1 := fb1.lt
            simp only [Act.put, List.setIfInBounds_toArray, List.set_cons_zero, List.set_cons_succ]
            simp only [cond_true, cond_false]
            refine inv_op ho (by kernel_rfl) (fun K hK => ?_)
            clear ho
            go_simp
            refine hK.out _ _ ?_
            unfold ROrderI
            refine ⟨gg0, gg1, gg2, true, gg4, gg5, gg6, gg7, gg8, gg9, gg10, gg11, gg12, gg13, gg14, gg15, gg16, gg17, x14, x15, rfl, by simp only [Act.put, List.setIfInBounds_toArray, List.set_cons_zero, List.set_cons_succ, cond_true, cond_false], ?_, ?_, ?_, ?_, ?_, ?_, ?_, ?_, ?_⟩
            · exact fb0
            · exact fb1
            · exact fB
            · exact fL
            · exact f14
            · exact f15
            · exact d14_15
            · exact s14
            · exact s15
          · have ge4 : gg4 = false := hi2
            have ge3 : gg3 = true := inv_dep ho hall 3 (by kernel_rfl)
            clear hall hi1 hi2
            subst ge4 ge3
            have ho2 := ho
            simp only [List.getElem?_toArray, List.getElem?_cons_zero, List.getElem?_cons_succ] at ho2
            have ho3 := Option.some.inj ho2; clear ho2; subst ho3
            obtain ⟨ba0, bb0⟩ := fb0.read; have bl0 := fb0.lt
            obtain ⟨ba1, bb1⟩ := fb1.read; have bl1 := fb1.lt
            simp only [Act.put, List.setIfInBounds_toArray, List.set_cons_zero, List.set_cons_succ]
            simp only [cond_true, cond_false]
            refine inv_op ho (by kernel_rfl) (fun K hK => ?_)
            clear ho
            go_simp
            refine hK.out _ _ ?_
            unfold ROrderI
            refine ⟨gg0, gg1, gg2, true, true, gg5, gg6, gg7, gg8, gg9, gg10, gg11, gg12, gg13, gg14, gg15, gg16, gg17, x14, x15, rfl, by simp only [Act.put, List.setIfInBounds_toArray, List.set_cons_zero, List.set_cons_succ, cond_true, cond_false], ?_, ?_, ?_, ?_, ?_, ?_, ?_, ?_, ?_⟩
            · exact fb0
            · exact fb1
            · exact fB
            · exact fL
            · exact f14
            · exact f15
            · exact d14_15
            · exact s14
            · exact s15
          · have ge5 : gg5 = false := hi2
            have ge4 : gg4 = true := inv_dep ho hall 4 (by kernel_rfl)
            clear hall hi1 hi2
            subst ge5 ge4
            have ho2 := ho
            simp only [List.getElem?_toArray, List.getElem?_cons_zero, List.getElem?_cons_succ] at ho2
            have ho3 := Option.some.inj ho2; clear ho2; subst ho3
            obtain ⟨ba0, bb0⟩ := fb0.read; have bl0 := fb0.lt
            obtain ⟨ba1, bb1⟩ := fb1.read; have bl1 := fb1.lt
            simp only [Act.put, List.setIfInBounds_toArray, List.set_cons_zero, List.set_cons_succ]
            simp only [cond_true, cond_false]
            refine inv_op ho (by kernel_rfl) (fun K hK => ?_)
            clear ho
            go_simp
            go_at_call 132; (with_reducible refine (HD.out _).mono ?_); rintro e w1 ⟨rfl, rfl⟩
            refine hK.out _ _ ?_
            unfold ROrderI
            refine ⟨gg0, gg1, gg2, gg3, true, true, gg6, gg7, gg8, gg9, gg10, gg11, gg12, gg13, gg14, gg15, gg16, gg17, x14, x15, rfl, by simp only [Act.put, List.setIfInBounds_toArray, List.set_cons_zero, List.set_cons_succ, cond_true, cond_false], ?_, ?_, ?_, ?_, ?_, ?_, ?_, ?_, ?_⟩
            · exact fb0
            · exact fb1
            · exact fB
            · exact fL
            · exact f14
            · exact f15
            · exact d14_15
            · exact s14
            · exact s15
          · have ge6 : gg6 = false := hi2
            have ge2 : gg2 = true := inv_dep ho hall 2 (by kernel_rfl)
            have ge5 : gg5 = true := inv_dep ho hall 5 (by kernel_rfl)
            clear hall hi1 hi2
            subst ge6 ge2 ge5
            have ho2 := ho
            simp only [List.getElem?_toArray, List.getElem?_cons_zero, List.getElem?_cons_succ] at ho2
            have ho3 := Option.some.inj ho2; clear ho2; subst ho3
            obtain ⟨ba0, bb0⟩ := fb0.read; have bl0 := fb0.lt
            obtain ⟨ba1, bb1⟩ := fb1.read; have bl1 := fb1.lt
            simp only [Act.put, List.setIfInBounds_toArray, List.set_cons_zero, List.set_cons_succ]
            simp only [cond_true, cond_false]
            refine inv_op ho (by kernel_rfl) (fun K hK => ?_)
            clear ho
            go_simp
            go_at_call 131; (with_reducible refine (HX.out _).mono ?_); rintro e w1 ⟨rfl, hb⟩
            refine hK.out _ _ ?_
            unfold ROrderI
            refine ⟨gg0, gg1, true, gg3, gg4, true, true, gg7, gg8, gg9, gg10, gg11, gg12, gg13, gg14, gg15, gg16, gg17, x14, x15, rfl, by simp only [Act.put, List.setIfInBounds_toArray, List.set_cons_zero, List.set_cons_succ, cond_true, cond_false], ?_, ?_, ?_, ?_, ?_, ?_, ?_, ?_, ?_⟩
            · exact Blk.later hb fb0
            · exact Blk.later hb fb1
            · exact belowThru fB hb
            · have := hb.size; omega
            · intro h; obtain ⟨p, q⟩ := f14 h; exact ⟨Blk.later hb p, q⟩
            · intro h; obtain ⟨p, q⟩ := f15 h; exact ⟨Blk.later hb p, q⟩
            · exact d14_15
            · exact s14
            · exact s15
          · have ge7 : gg7 = false := hi2
            clear hall hi1 hi2
            subst ge7
            have ho2 := ho
            simp only [List.getElem?_toArray, List.getElem?_cons_zero, List.getElem?_cons_succ] at ho2
            have ho3 := Option.some.inj ho2; clear ho2; subst ho3
            obtain ⟨ba0, bb0⟩ := fb0.read; have bl0 := fb0.lt
            obtain ⟨ba1, bb1⟩ := fb1.read; have bl1 := fb1.lt
            simp only [Act.put, List.setIfInBounds_toArray, List.set_cons_zero, List.set_cons_succ]
            simp only [cond_true, cond_false]
            refine inv_op ho (by kernel_rfl) (fun K hK => ?_)
            clear ho
            go_simp
            refine hK.out _ _ ?_
            unfold ROrderI
            refine ⟨gg0, gg1, gg2, gg3, gg4, gg5, gg6, true, gg8, gg9, gg10, gg11, gg12, gg13, gg14, gg15, gg16, gg17, x14, x15, rfl, by simp only [Act.put, List.setIfInBounds_toArray, List.set_cons_zero, List.set_cons_succ, cond_true, cond_false], ?_, ?_, ?_, ?_, ?_, ?_, ?_, ?_, ?_⟩
            · exact fb0
            · exact fb1
            · exact fB
            · exact fL
            · exact f14
            · exact f15
            · exact d14_15
            · exact s14
            · exact s15
          · have ge8 : gg8 = false := hi2
            have ge7 : gg7 = true := inv_dep ho hall 7 (by kernel_rfl)
            clear hall hi1 hi2
            subst ge8 ge7
            have ho2 := ho
            simp only [List.getElem?_toArray, List.getElem?_cons_zero, List.getElem?_cons_succ] at ho2
            have ho3 := Option.some.inj ho2; clear ho2; subst ho3
            obtain ⟨ba0, bb0⟩ := fb0.read; have bl0 := fb0.lt
            obtain ⟨ba1, bb1⟩ := fb1.read; have bl1 := fb1.lt
            simp only [Act.put, List.setIfInBounds_toArray, List.set_cons_zero, List.set_cons_succ]
            simp only [cond_true, cond_false]
            refine inv_op ho (by kernel_rfl) (fun K hK => ?_)
            clear ho
            go_simp
            refine hK.out _ _ ?_
            unfold ROrderI
            refine ⟨gg0, gg1, gg2, gg3, gg4, gg5, gg6, true, true, gg9, gg10, gg11, gg12, gg13, gg14, gg15, gg16, gg17, x14, x15, rfl, by simp only [Act.put, List.setIfInBounds_toArray, List.set_cons_zero, List.set_cons_succ, cond_true, cond_false], ?_, ?_, ?_, ?_, ?_, ?_, ?_, ?_, ?_⟩
            · exact fb0
            · exact fb1
            · exact fB
            · exact fL
            · exact f14
            · exact f15
            · exact d14_15
            · exact s14
            · exact s15
          · have ge9 : gg9 = false := hi2
            have ge8 : gg8 = true := inv_dep ho hall 8 (by kernel_rfl)
            clear hall hi1 hi2
            subst ge9 ge8
            have ho2 := ho
            simp only [List.getElem?_toArray, List.getElem?_cons_zero, List.getElem?_cons_succ] at ho2
            have ho3 := Option.some.inj ho2; clear ho2; subst ho3
            obtain ⟨ba0, bb0⟩ := fb0.read; have bl0 := fb0.lt
            obtain ⟨ba1, bb1⟩ := fb1.read; have bl1 := fb1.lt
            simp only [Act.put, List.setIfInBounds_toArray, List.set_cons_zero, List.set_cons_succ]
            simp only [cond_true, cond_false]
            refine inv_op ho (by kernel_rfl) (fun K hK => ?_)
            clear ho
            go_simp
            go_at_call 132; (with_reducible refine (HM2.out _).mono ?_); rintro e w1 ⟨rfl, rfl⟩
            refine hK.out _ _ ?_
            unfold ROrderI
            refine ⟨gg0, gg1, gg2, gg3, gg4, gg5, gg6, gg7, true, true, gg10, gg11, gg12, gg13, gg14, gg15, gg16, gg17, x14, x15, rfl, by simp only [Act.put, List.setIfInBounds_toArray, List.set_cons_zero, List.set_cons_succ, cond_true, cond_false], ?_, ?_, ?_, ?_, ?_, ?_, ?_, ?_, ?_⟩
            · exact fb0
            · exact fb1
            · exact fB
            · exact fL
            · exact f14
            · exact f15
            · exact d14_15
            · exact s14
            · exact s15
          · have ge10 : gg10 = false := hi2
            clear hall hi1 hi2
            subst ge10
            have ho2 := ho
            simp only [List.getElem?_toArray, List.getElem?_cons_zero, List.getElem?_cons_succ] at ho2
            have ho3 := Option.some.inj ho2; clear ho2; subst ho3
            obtain ⟨ba0, bb0⟩ := fb0.read; have bl0 := fb0.lt
            obtain ⟨ba1, bb1⟩ := fb1.read; have bl1 := fb1.lt
            simp only [Act.put, List.setIfInBounds_toArray, List.set_cons_zero, List.set_cons_succ]
            simp only [cond_true, cond_false]
            refine inv_op ho (by kernel_rfl) (fun K hK => ?_)
            clear ho
            go_simp
            refine hK.out _ _ ?_
            unfold ROrderI
            refine ⟨gg0, gg1, gg2, gg3, gg4, gg5, gg6, gg7, gg8, gg9, true, gg11, gg12, gg13, gg14, gg15, gg16, gg17, x14, x15, rfl, by simp only [Act.put, List.setIfInBounds_toArray, List.set_cons_zero, List.set_cons_succ, cond_true, cond_false], ?_, ?_, ?_, ?_, ?_, ?_, ?_, ?_, ?_⟩
            · exact fb0
            · exact fb1
            · exact fB
            · exact fL
            · exact f14
            · exact f15
            · exact d14_15
            · exact s14
            · exact s15
          · have ge11 : gg11 = false := hi2
            have ge10 : gg10 = true := inv_dep ho hall 10 (by kernel_rfl)
            clear hall hi1 hi2
            subst ge11 ge10
            have ho2 := ho
            simp only [List.getElem?_toArray, List.getElem?_cons_zero, List.getElem?_cons_succ] at ho2
            have ho3 := Option.some.inj ho2; clear ho2; subst ho3
            obtain ⟨ba0, bb0⟩ := fb0.read; have bl0 := fb0.lt
            obtain ⟨ba1, bb1⟩ := fb1.read; have bl1 := fb1.lt
            simp only [Act.put, List.setIfInBounds_toArray, List.set_cons_zero, List.set_cons_succ]
            simp only [cond_true, cond_false]
            refine inv_op ho (by kernel_rfl) (fun K hK => ?_)
            clear ho
            go_simp
            refine hK.out _ _ ?_
            unfold ROrderI
            refine ⟨gg0, gg1, gg2, gg3, gg4, gg5, gg6, gg7, gg8, gg9, true, true, gg12, gg13, gg14, gg15, gg16, gg17, x14, x15, rfl, by simp only [Act.put, List.setIfInBounds_toArray, List.set_cons_zero, List.set_cons_succ, cond_true, cond_false], ?_, ?_, ?_, ?_, ?_, ?_, ?_, ?_, ?_⟩
            · exact fb0
            · exact fb1
            · exact fB
            · exact fL
            · exact f14
            · exact f15
            · exact d14_15
            · exact s14
            · exact s15
          · have ge12 : gg12 = false := hi2
            have ge11 : gg11 = true := inv_dep ho hall 11 (by kernel_rfl)
            clear hall hi1 hi2
            subst ge12 ge11
            have ho2 := ho
            simp only [List.getElem?_toArray, List.getElem?_cons_zero, List.getElem?_cons_succ] at ho2
            have ho3 := Option.some.inj ho2; clear ho2; subst ho3
            obtain ⟨ba0, bb0⟩ := fb0.read; have bl0 := fb0.lt
            obtain ⟨ba1, bb1⟩ := fb1.read; have bl1 := fb1.lt
            simp only [Act.put, List.setIfInBounds_toArray, List.set_cons_zero, List.set_cons_succ]
            simp only [cond_true, cond_false]
            refine inv_op ho (by kernel_rfl) (fun K hK => ?_)
            clear ho
            go_simp
            go_at_call 132; (with_reducible refine (HB.out _).mono ?_); rintro e w1 ⟨rfl, rfl⟩
            refine hK.out _ _ ?_
            unfold ROrderI
            refine ⟨gg0, gg1, gg2, gg3, gg4, gg5, gg6, gg7, gg8, gg9, gg10, true, true, gg13, gg14, gg15, gg16, gg17, x14, x15, rfl, by simp only [Act.put, List.setIfInBounds_toArray, List.set_cons_zero, List.set_cons_succ, cond_true, cond_false], ?_, ?_, ?_, ?_, ?_, ?_, ?_, ?_, ?_⟩
            · exact fb0
            · exact fb1
            · exact fB
            · exact fL
            · exact f14
            · exact f15
            · exact d14_15
            · exact s14
            · exact s15
          · have ge13 : gg13 = false := hi2
            have ge9 : gg9 = true := inv_dep ho hall 9 (by kernel_rfl)
            have ge12 : gg12 = true := inv_dep ho hall 12 (by kernel_rfl)
            clear hall hi1 hi2
            subst ge13 ge9 ge12
            have ho2 := ho
            simp only [List.getElem?_toArray, List.getElem?_cons_zero, List.getElem?_cons_succ] at ho2
            have ho3 := Option.some.inj ho2; clear ho2; subst ho3
            obtain ⟨ba0, bb0⟩ := fb0.read; have bl0 := fb0.lt
            obtain ⟨ba1, bb1⟩ := fb1.read; have bl1 := fb1.lt
            simp only [Act.put, List.setIfInBounds_toArray, List.set_cons_zero, List.set_cons_succ]
            simp only [cond_true, cond_false]
            refine inv_op ho (by kernel_rfl) (fun K hK => ?_)
            clear ho
            go_simp
            go_at_call 131; (with_reducible refine (HY.out _).mono ?_); rintro e w1 ⟨rfl, hb⟩
            refine hK.out _ _ ?_
            unfold ROrderI
            refine ⟨gg0, gg1, gg2, gg3, gg4, gg5, gg6, gg7, gg8, true, gg10, gg11, true, true, gg14, gg15, gg16, gg17, x14, x15, rfl, by simp only [Act.put, List.setIfInBounds_toArray, List.set_cons_zero, List.set_cons_succ, cond_true, cond_false], ?_, ?_, ?_, ?_, ?_, ?_, ?_, ?_, ?_⟩
            · exact Blk.later hb fb0
            · exact Blk.later hb fb1
            · exact belowThru fB hb
            · have := hb.size; omega
            · intro h; obtain ⟨p, q⟩ := f14 h; exact ⟨Blk.later hb p, q⟩
            · intro h; obtain ⟨p, q⟩ := f15 h; exact ⟨Blk.later hb p, q⟩
            · exact d14_15
            · exact s14
            · exact s15
          · have ge14 : gg14 = false := hi2
            clear hall hi1 hi2
            subst ge14
            have ho2 := ho
            simp only [List.getElem?_toArray, List.getElem?_cons_zero, List.getElem?_cons_succ] at ho2
            have ho3 := Option.some.inj ho2; clear ho2; subst ho3
            obtain ⟨ba0, bb0⟩ := fb0.read; have bl0 := fb0.lt
            obtain ⟨ba1, bb1⟩ := fb1.read; have bl1 := fb1.lt
            obtain rfl : gg16 = false := by cases gg16; rfl; exact Bool.noConfusion (s14 rfl)
            simp only [Act.put, List.setIfInBounds_toArray, List.set_cons_zero, List.set_cons_succ]
            simp only [cond_true, cond_false]
            refine inv_op ho (by kernel_rfl) (fun K hK => ?_)
            clear ho
            go_simp
            refine hK.out _ _ ?_
            unfold ROrderI
            refine ⟨gg0, gg1, gg2, gg3, gg4, gg5, gg6, gg7, gg8, gg9, gg10, gg11, gg12, gg13, true, gg15, false, gg17, w9.heap.size, x15, rfl, by simp only [Act.put, List.setIfInBounds_toArray, List.set_cons_zero, List.set_cons_succ, cond_true, cond_false], ?_, ?_, ?_, ?_, ?_, ?_, ?_, ?_, ?_⟩
            · exact fb0.alloc
            · exact fb1.alloc
            · exact belowAlloc fB
            · simp only [World.size_alloc]; omega
            · intro _; exact ⟨Blk.new rfl, fL⟩
            · intro h; obtain ⟨p, q⟩ := f15 h; exact ⟨p.alloc, q⟩
            · intro _ h; have := (f15 h).1.lt; omega
            · intro _; rfl
            · exact s15
          · have ge15 : gg15 = false := hi2
            clear hall hi1 hi2
            subst ge15
            have ho2 := ho
            simp only [List.getElem?_toArray, List.getElem?_cons_zero, List.getElem?_cons_succ] at ho2
            have ho3 := Option.some.inj ho2; clear ho2; subst ho3
            obtain ⟨ba0, bb0⟩ := fb0.read; have bl0 := fb0.lt
            obtain ⟨ba1, bb1⟩ := fb1.read; have bl1 := fb1.lt
            obtain rfl : gg17 = false := by cases gg17; rfl; exact Bool.noConfusion (s15 rfl)
            simp only [Act.put, List.setIfInBounds_toArray, List.set_cons_zero, List.set_cons_succ]
            simp only [cond_true, cond_false]
            refine inv_op ho (by kernel_rfl) (fun K hK => ?_)
            clear ho
            go_simp
            refine hK.out _ _ ?_
            unfold ROrderI
            refine ⟨gg0, gg1, gg2, gg3, gg4, gg5, gg6, gg7, gg8, gg9, gg10, gg11, gg12, gg13, gg14, true, gg16, false, x14, w9.heap.size, rfl, by simp only [Act.put, List.setIfInBounds_toArray, List.set_cons_zero, List.set_cons_succ, cond_true, cond_false], ?_, ?_, ?_, ?_, ?_, ?_, ?_, ?_, ?_⟩
            · exact fb0.alloc
            · exact fb1.alloc
            · exact belowAlloc fB
            · simp only [World.size_alloc]; omega
            · intro h; obtain ⟨p, q⟩ := f14 h; exact ⟨p.alloc, q⟩
            · intro _; exact ⟨Blk.new rfl, fL⟩
            · intro h _; have := (f14 h).1.lt; omega
            · exact s14
            · intro _; rfl
          · have ge16 : gg16 = false := hi2
            have ge6 : gg6 = true := inv_dep ho hall 6 (by kernel_rfl)
            have ge14 : gg14 = true := inv_dep ho hall 14 (by kernel_rfl)
            clear hall hi1 hi2
            subst ge16 ge6 ge14
            have ho2 := ho
            simp only [List.getElem?_toArray, List.getElem?_cons_zero, List.getElem?_cons_succ] at ho2
            have ho3 := Option.some.inj ho2; clear ho2; subst ho3
            obtain ⟨p14, q14⟩ := f14 rfl
            obtain ⟨ra14, rb14⟩ := p14.read
            have rl14 := p14.lt
            obtain ⟨ba0, bb0⟩ := fb0.read; have bl0 := fb0.lt
            obtain ⟨ba1, bb1⟩ := fb1.read; have bl1 := fb1.lt
            have rl14 := p14.lt
            skip
            simp only [Act.put, List.setIfInBounds_toArray, List.set_cons_zero, List.set_cons_succ]
            simp only [cond_true, cond_false]
            refine inv_op ho (by kernel_rfl) (fun K hK => ?_)
            clear ho
            go_simp
            refine hK.out _ _ ?_
            unfold ROrderI
            refine ⟨gg0, gg1, gg2, gg3, gg4, gg5, true, gg7, gg8, gg9, gg10, gg11, gg12, gg13, true, gg15, true, gg17, x14, x15, rfl, by simp only [Act.put, List.setIfInBounds_toArray, List.set_cons_zero, List.set_cons_succ, cond_true, cond_false], ?_, ?_, ?_, ?_, ?_, ?_, ?_, ?_, ?_⟩
            · (repeat' (first | (with_reducible assumption) | ((with_reducible refine Blk.new ?_); first | rfl | (simp; done)) | (with_reducible refine Blk.later (by assumption) ?_) | (with_reducible refine Blk.alloc ?_) | (with_reducible refine Blk.drewN ?_) | (with_reducible refine Blk.drew ?_) | (with_reducible refine Blk.other ?_ (by first | omega | (simp; done) | (simp; omega)))))
            · (repeat' (first | (with_reducible assumption) | ((with_reducible refine Blk.new ?_); first | rfl | (simp; done)) | (with_reducible refine Blk.later (by assumption) ?_) | (with_reducible refine Blk.alloc ?_) | (with_reducible refine Blk.drewN ?_) | (with_reducible refine Blk.drew ?_) | (with_reducible refine Blk.other ?_ (by first | omega | (simp; done) | (simp; omega)))))
            · (repeat' (first | (with_reducible exact Below.refl _ _) | (with_reducible assumption) | (with_reducible refine belowThru ?_ (by assumption)) | (with_reducible refine belowAlloc ?_) | (with_reducible refine Below.setCell ?_ (by first | omega | (simp; done) | (simp; omega)) _) | (with_reducible refine Below.drew ?_) | (with_reducible refine below_drewN ?_ _)))
            · first | exact fL | (simp; omega)
            · intro _; exact ⟨by exact Blk.set (Blk.set (p14)), q14⟩
            · intro h; obtain ⟨p, q⟩ := f15 h; have hne := d14_15 rfl h; exact ⟨by (repeat' (first | (with_reducible assumption) | ((with_reducible refine Blk.new ?_); first | rfl | (simp; done)) | (with_reducible refine Blk.later (by assumption) ?_) | (with_reducible refine Blk.alloc ?_) | (with_reducible refine Blk.drewN ?_) | (with_reducible refine Blk.drew ?_) | (with_reducible refine Blk.other ?_ (by first | omega | (simp; done) | (simp; omega))))), q⟩
            · exact d14_15
            · intro _; rfl
            · exact s15
          · have ge17 : gg17 = false := hi2
            have ge13 : gg13 = true := inv_dep ho hall 13 (by kernel_rfl)
            have ge15 : gg15 = true := inv_dep ho hall 15 (by kernel_rfl)
            clear hall hi1 hi2
            subst ge17 ge13 ge15
            have ho2 := ho
            simp only [List.getElem?_toArray, List.getElem?_cons_zero, List.getElem?_cons_succ] at ho2
            have ho3 := Option.some.inj ho2; clear ho2; subst ho3
            obtain ⟨p15, q15⟩ := f15 rfl
            obtain ⟨ra15, rb15⟩ := p15.read
            have rl15 := p15.lt
            obtain ⟨ba0, bb0⟩ := fb0.read; have bl0 := fb0.lt
            obtain ⟨ba1, bb1⟩ := fb1.read; have bl1 := fb1.lt
            have rl15 := p15.lt
            skip
            simp only [Act.put, List.setIfInBounds_toArray, List.set_cons_zero, List.set_cons_succ]
            simp only [cond_true, cond_false]
            refine inv_op ho (by kernel_rfl) (fun K hK => ?_)
            clear ho
            go_simp
            refine hK.out _ _ ?_
            unfold ROrderI
            refine ⟨gg0, gg1, gg2, gg3, gg4, gg5, gg6, gg7, gg8, gg9, gg10, gg11, gg12, true, gg14, true, gg16, true, x14, x15, rfl, by simp only [Act.put, List.setIfInBounds_toArray, List.set_cons_zero, List.set_cons_succ, cond_true, cond_false], ?_, ?_, ?_, ?_, ?_, ?_, ?_, ?_, ?_⟩
            · (repeat' (first | (with_reducible assumption) | ((with_reducible refine Blk.new ?_); first | rfl | (simp; done)) | (with_reducible refine Blk.later (by assumption) ?_) | (with_reducible refine Blk.alloc ?_) | (with_reducible refine Blk.drewN ?_) | (with_reducible refine Blk.drew ?_) | (with_reducible refine Blk.other ?_ (by first | omega | (simp; done) | (simp; omega)))))
            · (repeat' (first | (with_reducible assumption) | ((with_reducible refine Blk.new ?_); first | rfl | (simp; done)) | (with_reducible refine Blk.later (by assumption) ?_) | (with_reducible refine Blk.alloc ?_) | (with_reducible refine Blk.drewN ?_) | (with_reducible refine Blk.drew ?_) | (with_reducible refine Blk.other ?_ (by first | omega | (simp; done) | (simp; omega)))))
            · (repeat' (first | (with_reducible exact Below.refl _ _) | (with_reducible assumption) | (with_reducible refine belowThru ?_ (by assumption)) | (with_reducible refine belowAlloc ?_) | (with_reducible refine Below.setCell ?_ (by first | omega | (simp; done) | (simp; omega)) _) | (with_reducible refine Below.drew ?_) | (with_reducible refine below_drewN ?_ _)))
            · first | exact fL | (simp; omega)
            · intro h; obtain ⟨p, q⟩ := f14 h; have hne := d14_15 h rfl; exact ⟨by (repeat' (first | (with_reducible assumption) | ((with_reducible refine Blk.new ?_); first | rfl | (simp; done)) | (with_reducible refine Blk.later (by assumption) ?_) | (with_reducible refine Blk.alloc ?_) | (with_reducible refine Blk.drewN ?_) | (with_reducible refine Blk.drew ?_) | (with_reducible refine Blk.other ?_ (by first | omega | (simp; done) | (simp; omega))))), q⟩
            · intro _; exact ⟨by exact Blk.set (Blk.set (p15)), q15⟩
            · exact d14_15
            · exact s14
            · intro _; rfl
          · exfalso; simp at hi1; omega
        case hfin =>
          intro a w9 hI
          obtain ⟨gg0, gg1, gg2, gg3, gg4, gg5, gg6, gg7, gg8, gg9, gg10, gg11, gg12, gg13, gg14, gg15, gg16, gg17, x14, x15, hL, rfl, fb0, fb1, fB, fL, f14, f15, d14_15, s14, s15⟩ := hI
          have hL2 : #[true, true, true, true, true, true, true, true, true, true, true, true, true, true, true, true, true, true] = #[gg0, gg1, gg2, gg3, gg4, gg5, gg6, gg7, gg8, gg9, gg10, gg11, gg12, gg13, gg14, gg15, gg16, gg17] := hL
          cases hL2
          obtain ⟨p14, q14⟩ := f14 rfl
          obtain ⟨p15, q15⟩ := f15 rfl
          have n14_15 := d14_15 rfl rfl
          clear f14 f15 d14_15 s14 s15
          simp only [Act.put, List.setIfInBounds_toArray, List.set_cons_zero, List.set_cons_succ]
          simp only [cond_true]
          go_wp2_with fail
          go_meet
          refine ⟨At2.mk q14 q15 n14_15 p14 p15, fb0, fb1, fB⟩
      case rest =>
        clear HM1 HD HM2 HB HX HY
        obtain ⟨⟨pb, qb, rfl, rfl, g1, g2, hn, k2, k3⟩, k0, k1, hB⟩ := hcut
        obtain ⟨a0, b0⟩ := k0.read; obtain ⟨a1, b1⟩ := k1.read; obtain ⟨a2, b2⟩ := k2.read; obtain ⟨a3, b3⟩ := k3.read
        have zz0 := k0.lt; have zz1 := k1.lt; have zz2 := k2.lt; have zz3 := k3.lt
        rcases hv with ⟨rfl, rfl, rfl⟩ | ⟨hne | ⟨rfl, hne⟩, ⟨rfl, he⟩ | ⟨rfl, rfl⟩⟩
        all_goals
          go_wp2_with (first
            | (go_at_call 136; (with_reducible refine (HL.out _).mono ?_); rintro e w1 ⟨rfl, hb⟩; (try (have zk := k0.lt; (first | ((with_reducible refine Blk.keepG hb k0 (fun h => ?_) ?_); (focus ((repeat' (first | (with_reducible assumption) | ((with_reducible refine Blk.new ?_); first | rfl | (simp; done)) | (with_reducible refine Blk.later (by assumption) ?_) | (with_reducible refine Blk.alloc ?_) | (with_reducible refine Blk.drewN ?_) | (with_reducible refine Blk.drew ?_) | (with_reducible refine Blk.other ?_ (by first | omega | (simp; done) | (simp; omega))))); done)); clear k0; intro k0) | (with_reducible replace k0 := Blk.later hb (Blk.set (Blk.set k0))) | (with_reducible replace k0 := Blk.later hb (Blk.set k0))); clear a0 b0; obtain ⟨a0, b0⟩ := k0.read; have zl := k0.lt)); (try (have zk := k1.lt; (first | ((with_reducible refine Blk.keepG hb k1 (fun h => ?_) ?_); (focus ((repeat' (first | (with_reducible assumption) | ((with_reducible refine Blk.new ?_); first | rfl | (simp; done)) | (with_reducible refine Blk.later (by assumption) ?_) | (with_reducible refine Blk.alloc ?_) | (with_reducible refine Blk.drewN ?_) | (with_reducible refine Blk.drew ?_) | (with_reducible refine Blk.other ?_ (by first | omega | (simp; done) | (simp; omega))))); done)); clear k1; intro k1) | (with_reducible replace k1 := Blk.later hb (Blk.set (Blk.set k1))) | (with_reducible replace k1 := Blk.later hb (Blk.set k1))); clear a1 b1; obtain ⟨a1, b1⟩ := k1.read; have zl := k1.lt)); (try (have zk := k2.lt; (first | ((with_reducible refine Blk.keepG hb k2 (fun h => ?_) ?_); (focus ((repeat' (first | (with_reducible assumption) | ((with_reducible refine Blk.new ?_); first | rfl | (simp; done)) | (with_reducible refine Blk.later (by assumption) ?_) | (with_reducible refine Blk.alloc ?_) | (with_reducible refine Blk.drewN ?_) | (with_reducible refine Blk.drew ?_) | (with_reducible refine Blk.other ?_ (by first | omega | (simp; done) | (simp; omega))))); done)); clear k2; intro k2) | (with_reducible replace k2 := Blk.later hb (Blk.set (Blk.set k2))) | (with_reducible replace k2 := Blk.later hb (Blk.set k2))); clear a2 b2; obtain ⟨a2, b2⟩ := k2.read; have zl := k2.lt)); (try (have zk := k3.lt; (first | ((with_reducible refine Blk.keepG hb k3 (fun h => ?_) ?_); (focus ((repeat' (first | (with_reducible assumption) | ((with_reducible refine Blk.new ?_); first | rfl | (simp; done)) | (with_reducible refine Blk.later (by assumption) ?_) | (with_reducible refine Blk.alloc ?_) | (with_reducible refine Blk.drewN ?_) | (with_reducible refine Blk.drew ?_) | (with_reducible refine Blk.other ?_ (by first | omega | (simp; done) | (simp; omega))))); done)); clear k3; intro k3) | (with_reducible replace k3 := Blk.later hb (Blk.set (Blk.set k3))) | (with_reducible replace k3 := Blk.later hb (Blk.set k3))); clear a3 b3; obtain ⟨a3, b3⟩ := k3.read; have zl := k3.lt)))
            | (go_at_call 133; (with_reducible refine (HS1.out _).mono ?_); rintro e w1 ⟨rfl, rfl⟩))
          go_ret
          exact ⟨rfl, by (repeat' (first | (with_reducible exact Below.refl _ _) | (with_reducible assumption) | (with_reducible refine belowThru ?_ (by assumption)) | (with_reducible refine belowAlloc ?_) | (with_reducible refine Below.setCell ?_ (by first | omega | (simp; done) | (simp; omega)) _) | (with_reducible refine Below.drew ?_) | (with_reducible refine below_drewN ?_ _)))⟩

end Go.Proofs.Ytbcgebobfnclnaa
/-
  The document's own answers, layer 1: order, products, quotients and sums of rational numbers that fit.
-/
namespace Go.Proofs.Ytbcgebobfnclnaa
open Go.RowKit

theorem sg (p : Int) : (p < 0 ∧ p.sign = -1) ∨ (p = 0 ∧ p.sign = 0) ∨ (0 < p ∧ p.sign = 1) := by
  rcases Int.lt_trichotomy p 0 with h | h | h
  · exact .inl ⟨h, Int.sign_eq_neg_one_of_neg h⟩
  · exact .inr (.inl ⟨h, by rw [h]; rfl⟩)
  · exact .inr (.inr ⟨h, Int.sign_eq_one_of_pos h⟩)
theorem sg_mul (n d : Int) (hd : 1 ≤ d) : (n * d).sign = n.sign := by
  rw [Int.sign_mul, Int.sign_eq_one_of_pos (show 0 < d by omega), Int.mul_one]
theorem mag_mul_pos (n d : Int) (hd : 1 ≤ d) : mag n * d = mag (n * d) := by
  have := mag_mul n d
  rwa [mag_pos d (by omega)] at this
theorem mag_sg (p : Int) : (p < 0 → mag p = -p) ∧ (0 ≤ p → mag p = p) := ⟨mag_neg p, mag_pos p⟩

theorem rsize_pos (d : Int) (h : 0 ≤ d) (h2 : d ≤ 9223372036854775807) (w : World) :
    Calls Try.prog 132 #[.int .i64 d] w fun e w' => e = .returned (.int .u64 d) ∧ w = w' := by
  have := rsize_any d (by omega) h2 w
  rwa [mag_pos d h] at this

theorem rorder_q (q r : Rat) (hq : fits q) (hr : fits r) (w : World) :
    Calls Try.prog 116 #[.agg #[.int .i64 (fn q), .int .i64 (fd q)], .agg #[.int .i64 (fn r), .int .i64 (fd r)]] w fun e w' => e = .returned (.int .i64 (ordQ q r)) ∧ Below w.heap.size w w' := by
  have b1 := prod_bound q r hq hr
  have b2 := prod_bound r q hr hq
  have fq := hq; have fr' := hr; unfold fits at fq fr'; obtain ⟨q1, q2, q3⟩ := fq; obtain ⟨r1, r2, r3⟩ := fr'; have q4 := fd_pos q; have r4 := fd_pos r
  have e1 := mag_mul_pos (fn q) (fd r) r4
  have e2 := mag_mul_pos (fn r) (fd q) q4
  have s1 := sg_mul (fn q) (fd r) r4
  have s2 := sg_mul (fn r) (fd q) q4
  have m1 := mag_lo (fn q); have m2 := mag_le (fn q) (by omega) (by omega); have m3 := mag_lo (fn r); have m4 := mag_le (fn r) (by omega) (by omega)
  have ho : ordQ q r = (fn q * fd r - fn r * fd q).sign := rfl
  have HX := Lib.hid (fun w => rtimes_any (mag (fn q)) (fd r) (by omega) (by omega) (by omega) (by omega) w)
  have HY := Lib.hid (fun w => rtimes_any (mag (fn r)) (fd q) (by omega) (by omega) (by omega) (by omega) w)
  rw [e1] at HX
  rw [e2] at HY
  obtain ⟨p, hp⟩ : ∃ p, p = fn q * fd r := ⟨_, rfl⟩
  obtain ⟨p', hp'⟩ : ∃ p', p' = fn r * fd q := ⟨_, rfl⟩
  rw [← hp] at e1 s1 ho b1 HX
  rw [← hp'] at e2 s2 ho b2 HY
  have g1 := mag_sg p; have g2 := mag_sg p'
  have M1 := mag_lo p; have M2 := mag_lo p'
  have M3 : mag p < 340282366920938463463374607431768211456 := by have := mag_natAbs p; omega
  have M4 : mag p' < 340282366920938463463374607431768211456 := by have := mag_natAbs p'; omega
  have hs := same_iff (mag p) (mag p') M1 M3 M2 M4
  refine rorder_walk (fn q) (fd q) (fn r) (fd r) (fn q).sign (fn r).sign ((fn q).sign - (fn r).sign) ((fn q).sign - (fn r).sign).sign (mag (fn q)) (mag (fn r)) (whi (mag p)) (wlo (mag p)) (whi (mag p')) (wlo (mag p')) (ordQ q r) (decide (mag p < mag p')) w
    (Lib.hid (rsign_any _)) (Lib.hid (rsign_any _)) (Lib.hid (rsign_any _)) (Lib.hid (rsize_any _ (by omega) (by omega))) (Lib.hid (rsize_pos _ (by omega) (by omega))) (Lib.hid (rsize_any _ (by omega) (by omega))) (Lib.hid (rsize_pos _ (by omega) (by omega)))
    HX HY (Lib.hid (rless_any _ _ M1 M3 M2 M4)) ?_
  rw [← s1, ← s2, ho]
  have hl : (decide (mag p < mag p') = true ∧ mag p < mag p') ∨ (decide (mag p < mag p') = false ∧ ¬ mag p < mag p') := by
    by_cases h : mag p < mag p'
    · exact .inl ⟨decide_eq_true h, h⟩
    · exact .inr ⟨decide_eq_false h, h⟩
  have k1 := sg p; have k2 := sg p'; have k3 := sg (p - p'); have k4 := sg (p.sign - p'.sign)
  by_cases hne : p.sign = p'.sign
  · refine .inr ⟨by rw [hne]; simp, ?_⟩
    by_cases hX : mag p = mag p'
    · exact .inl ⟨(hs.2 hX).1, (hs.2 hX).2, by omega⟩
    · refine .inr ⟨?_, ?_⟩
      · by_cases h : whi (mag p) = whi (mag p')
        · exact .inr ⟨h, fun k => hX (hs.1 ⟨h, k⟩)⟩
        · exact .inl h
      · rcases hl with ⟨l1, l2⟩ | ⟨l1, l2⟩
        · exact .inl ⟨l1, by rw [IntWalk.i64_in _ (by omega)]; omega⟩
        · exact .inr ⟨l1, by omega⟩
  · exact .inl ⟨by simpa using hne, IntWalk.i64_in _ (by omega), by omega⟩

end Go.Proofs.Ytbcgebobfnclnaa
/-
  The document's own answers, layer 1: what its calls return of numbers and of fractions.
-/
namespace Go.Proofs.Ytbcgebobfnclnaa
open Go.RowKit

/-- Two fractions one of which is not valid: what Valid says of them in turn. -/
structure Bad2 (a b c d : Int) (p q : Bool) : Prop where
  one : ∀ w, Calls Try.prog 115 #[.agg #[.int .i64 a, .int .i64 b]] w fun e w' => e = .returned (.bool p) ∧ Below w.heap.size w w'
  two : ∀ w, Calls Try.prog 115 #[.agg #[.int .i64 c, .int .i64 d]] w fun e w' => e = .returned (.bool q) ∧ Below w.heap.size w w'
  no : p = false ∨ (p = true ∧ q = false)
theorem valid_cases (a b : Int) (ha1 : -9223372036854775808 ≤ a) (ha2 : a ≤ 9223372036854775807) : ∃ p : Bool, (p = true ↔ okF a b) ∧ ∀ w, Calls Try.prog 115 #[.agg #[.int .i64 a, .int .i64 b]] w fun e w' => e = .returned (.bool p) ∧ Below w.heap.size w w' := by
  by_cases h : okF a b
  · obtain ⟨q, fq, rfl, rfl⟩ := (okF_iff _ _).1 h
    exact ⟨true, ⟨fun _ => h, fun _ => rfl⟩, rvalid_true q fq⟩
  · exact ⟨false, ⟨fun k => Bool.noConfusion k, fun k => absurd k h⟩, rvalid_false a b h ha1 ha2⟩
end Go.Proofs.Ytbcgebobfnclnaa
/-
  The document's own answers, layer 1: enclosures: whether they are valid, what they contain, the lesser and the greater number.
-/
namespace Go.Proofs.Ytbcgebobfnclnaa
open Go.RowKit

set_option maxHeartbeats 1000000 in
theorem rvs_walk (a b c d o : Int) (p q v : Bool) (w : World)
    (H1 : Hid (∀ w, Calls Try.prog 115 #[.agg #[.int .i64 a, .int .i64 b]] w fun e w' => e = .returned (.bool p) ∧ Below w.heap.size w w'))
    (H2 : Hid (∀ w, Calls Try.prog 115 #[.agg #[.int .i64 c, .int .i64 d]] w fun e w' => e = .returned (.bool q) ∧ Below w.heap.size w w'))
    (hv : (p = false ∧ v = false) ∨ (p = true ∧ q = false ∧ v = false) ∨
      (p = true ∧ q = true ∧ Hid (∀ w, Calls Try.prog 116 #[.agg #[.int .i64 a, .int .i64 b], .agg #[.int .i64 c, .int .i64 d]] w fun e w' => e = .returned (.int .i64 o) ∧ Below w.heap.size w w') ∧ decide (o ≤ 0) = v)) :
    Calls Try.prog 83 #[.agg #[.int .i64 a, .int .i64 b, .int .i64 c, .int .i64 d]] w fun e w' => e = .returned (.bool v) ∧ Below w.heap.size w w' := by
  rcases hv with ⟨rfl, rfl⟩ | ⟨rfl, rfl, rfl⟩ | ⟨rfl, rfl, HO, rfl⟩
  · go_enter Try.func83, Try.ntmps83
    go_wp2_with (go_at_call 115; (with_reducible refine (H1.out _).mono ?_); rintro e w1 ⟨rfl, hb⟩; (first | ((with_reducible have k0 := Blk.later hb (Blk.new rfl)); skip; obtain ⟨a0, b0⟩ := k0.read; have zl := k0.lt) | ((try (have zk := k0.lt; (first | ((with_reducible refine Blk.keepG hb k0 (fun h => ?_) ?_); (focus ((repeat' (first | (with_reducible assumption) | ((with_reducible refine Blk.new ?_); first | rfl | (simp; done)) | (with_reducible refine Blk.later (by assumption) ?_) | (with_reducible refine Blk.alloc ?_) | (with_reducible refine Blk.drewN ?_) | (with_reducible refine Blk.drew ?_) | (with_reducible refine Blk.other ?_ (by first | omega | (simp; done) | (simp; omega))))); done)); clear k0; intro k0) | (with_reducible replace k0 := Blk.later hb (Blk.set (Blk.set k0))) | (with_reducible replace k0 := Blk.later hb (Blk.set k0))); clear a0 b0; obtain ⟨a0, b0⟩ := k0.read; have zl := k0.lt)))))
    go_ret
    exact ⟨rfl, by (repeat' (first | (with_reducible exact Below.refl _ _) | (with_reducible assumption) | (with_reducible refine belowThru ?_ (by assumption)) | (with_reducible refine belowAlloc ?_) | (with_reducible refine Below.setCell ?_ (by first | omega | (simp; done) | (simp; omega)) _) | (with_reducible refine Below.drew ?_) | (with_reducible refine below_drewN ?_ _)))⟩
  · go_enter Try.func83, Try.ntmps83
    go_wp2_with (first
      | (go_at_call 115; (with_reducible refine (H1.out _).mono ?_); rintro e w1 ⟨rfl, hb⟩; (first | ((with_reducible have k0 := Blk.later hb (Blk.new rfl)); skip; obtain ⟨a0, b0⟩ := k0.read; have zl := k0.lt) | ((try (have zk := k0.lt; (first | ((with_reducible refine Blk.keepG hb k0 (fun h => ?_) ?_); (focus ((repeat' (first | (with_reducible assumption) | ((with_reducible refine Blk.new ?_); first | rfl | (simp; done)) | (with_reducible refine Blk.later (by assumption) ?_) | (with_reducible refine Blk.alloc ?_) | (with_reducible refine Blk.drewN ?_) | (with_reducible refine Blk.drew ?_) | (with_reducible refine Blk.other ?_ (by first | omega | (simp; done) | (simp; omega))))); done)); clear k0; intro k0) | (with_reducible replace k0 := Blk.later hb (Blk.set (Blk.set k0))) | (with_reducible replace k0 := Blk.later hb (Blk.set k0))); clear a0 b0; obtain ⟨a0, b0⟩ := k0.read; have zl := k0.lt)))); clear H1)
      | (go_at_call 115; (with_reducible refine (H2.out _).mono ?_); rintro e w1 ⟨rfl, hb⟩; (try (have zk := k0.lt; (first | ((with_reducible refine Blk.keepG hb k0 (fun h => ?_) ?_); (focus ((repeat' (first | (with_reducible assumption) | ((with_reducible refine Blk.new ?_); first | rfl | (simp; done)) | (with_reducible refine Blk.later (by assumption) ?_) | (with_reducible refine Blk.alloc ?_) | (with_reducible refine Blk.drewN ?_) | (with_reducible refine Blk.drew ?_) | (with_reducible refine Blk.other ?_ (by first | omega | (simp; done) | (simp; omega))))); done)); clear k0; intro k0) | (with_reducible replace k0 := Blk.later hb (Blk.set (Blk.set k0))) | (with_reducible replace k0 := Blk.later hb (Blk.set k0))); clear a0 b0; obtain ⟨a0, b0⟩ := k0.read; have zl := k0.lt))))
    go_ret
    exact ⟨rfl, by (repeat' (first | (with_reducible exact Below.refl _ _) | (with_reducible assumption) | (with_reducible refine belowThru ?_ (by assumption)) | (with_reducible refine belowAlloc ?_) | (with_reducible refine Below.setCell ?_ (by first | omega | (simp; done) | (simp; omega)) _) | (with_reducible refine Below.drew ?_) | (with_reducible refine below_drewN ?_ _)))⟩
  · go_enter Try.func83, Try.ntmps83
    go_wp2_with (first
      | (go_at_call 115; (with_reducible refine (H1.out _).mono ?_); rintro e w1 ⟨rfl, hb⟩; (first | ((with_reducible have k0 := Blk.later hb (Blk.new rfl)); skip; obtain ⟨a0, b0⟩ := k0.read; have zl := k0.lt) | ((try (have zk := k0.lt; (first | ((with_reducible refine Blk.keepG hb k0 (fun h => ?_) ?_); (focus ((repeat' (first | (with_reducible assumption) | ((with_reducible refine Blk.new ?_); first | rfl | (simp; done)) | (with_reducible refine Blk.later (by assumption) ?_) | (with_reducible refine Blk.alloc ?_) | (with_reducible refine Blk.drewN ?_) | (with_reducible refine Blk.drew ?_) | (with_reducible refine Blk.other ?_ (by first | omega | (simp; done) | (simp; omega))))); done)); clear k0; intro k0) | (with_reducible replace k0 := Blk.later hb (Blk.set (Blk.set k0))) | (with_reducible replace k0 := Blk.later hb (Blk.set k0))); clear a0 b0; obtain ⟨a0, b0⟩ := k0.read; have zl := k0.lt)))); clear H1)
      | (go_at_call 115; (with_reducible refine (H2.out _).mono ?_); rintro e w1 ⟨rfl, hb⟩; (try (have zk := k0.lt; (first | ((with_reducible refine Blk.keepG hb k0 (fun h => ?_) ?_); (focus ((repeat' (first | (with_reducible assumption) | ((with_reducible refine Blk.new ?_); first | rfl | (simp; done)) | (with_reducible refine Blk.later (by assumption) ?_) | (with_reducible refine Blk.alloc ?_) | (with_reducible refine Blk.drewN ?_) | (with_reducible refine Blk.drew ?_) | (with_reducible refine Blk.other ?_ (by first | omega | (simp; done) | (simp; omega))))); done)); clear k0; intro k0) | (with_reducible replace k0 := Blk.later hb (Blk.set (Blk.set k0))) | (with_reducible replace k0 := Blk.later hb (Blk.set k0))); clear a0 b0; obtain ⟨a0, b0⟩ := k0.read; have zl := k0.lt)); clear H2)
      | (go_at_call 116; (with_reducible refine (HO.out _).mono ?_); rintro e w1 ⟨rfl, hb⟩; (try (have zk := k0.lt; (first | ((with_reducible refine Blk.keepG hb k0 (fun h => ?_) ?_); (focus ((repeat' (first | (with_reducible assumption) | ((with_reducible refine Blk.new ?_); first | rfl | (simp; done)) | (with_reducible refine Blk.later (by assumption) ?_) | (with_reducible refine Blk.alloc ?_) | (with_reducible refine Blk.drewN ?_) | (with_reducible refine Blk.drew ?_) | (with_reducible refine Blk.other ?_ (by first | omega | (simp; done) | (simp; omega))))); done)); clear k0; intro k0) | (with_reducible replace k0 := Blk.later hb (Blk.set (Blk.set k0))) | (with_reducible replace k0 := Blk.later hb (Blk.set k0))); clear a0 b0; obtain ⟨a0, b0⟩ := k0.read; have zl := k0.lt))))
    go_ret
    exact ⟨rfl, by (repeat' (first | (with_reducible exact Below.refl _ _) | (with_reducible assumption) | (with_reducible refine belowThru ?_ (by assumption)) | (with_reducible refine belowAlloc ?_) | (with_reducible refine Below.setCell ?_ (by first | omega | (simp; done) | (simp; omega)) _) | (with_reducible refine Below.drew ?_) | (with_reducible refine below_drewN ?_ _)))⟩
theorem rvalidSpan (a b c d : Int) (ha1 : -9223372036854775808 ≤ a) (ha2 : a ≤ 9223372036854775807) (hc1 : -9223372036854775808 ≤ c) (hc2 : c ≤ 9223372036854775807) :
    ∃ v : Bool, (v = true ↔ okS a b c d) ∧ ∀ w, Calls Try.prog 83 #[.agg #[.int .i64 a, .int .i64 b, .int .i64 c, .int .i64 d]] w fun e w' => e = .returned (.bool v) ∧ Below w.heap.size w w' := by
  obtain ⟨p, hp, h1⟩ := valid_cases a b ha1 ha2
  obtain ⟨q, hq, h2⟩ := valid_cases c d hc1 hc2
  cases p
  · refine ⟨false, ⟨fun k => Bool.noConfusion k, fun ⟨l, h, fl, fh, e1, e2, e3, e4, _⟩ => ?_⟩, fun w => rvs_walk a b c d 0 _ _ _ w (Lib.hid h1) (Lib.hid h2) (.inl ⟨rfl, rfl⟩)⟩
    exact absurd (hp.2 ((okF_iff _ _).2 ⟨l, fl, e1.symm, e2.symm⟩)) Bool.noConfusion
  · cases q
    · refine ⟨false, ⟨fun k => Bool.noConfusion k, fun ⟨l, h, fl, fh, e1, e2, e3, e4, _⟩ => ?_⟩, fun w => rvs_walk a b c d 0 _ _ _ w (Lib.hid h1) (Lib.hid h2) (.inr (.inl ⟨rfl, rfl, rfl⟩))⟩
      exact absurd (hq.2 ((okF_iff _ _).2 ⟨h, fh, e3.symm, e4.symm⟩)) Bool.noConfusion
    · obtain ⟨l, fl, rfl, rfl⟩ := (okF_iff _ _).1 (hp.1 rfl)
      obtain ⟨h, fh, rfl, rfl⟩ := (okF_iff _ _).1 (hq.1 rfl)
      refine ⟨decide (ordQ l h ≤ 0), ⟨fun k => ⟨l, h, fl, fh, rfl, rfl, rfl, rfl, ordQ_le.1 (of_decide_eq_true k)⟩, fun ⟨l', h', _, _, e1, e2, e3, e4, hle⟩ => ?_⟩,
        fun w => rvs_walk _ _ _ _ (ordQ l h) _ _ _ w (Lib.hid h1) (Lib.hid h2) (.inr (.inr ⟨rfl, rfl, Lib.hid (rorder_q l h fl fh), rfl⟩))⟩
      rw [← q_ext e1 e2, ← q_ext e3 e4] at hle
      exact decide_eq_true (ordQ_le.2 hle)

end Go.Proofs.Ytbcgebobfnclnaa
/-
  Layer 5: whether the reference takes a gauge.
-/
namespace Go.Proofs.Ytbcgebobfnclnaa
open Go.RowKit Go.Shelf
set_option linter.unusedVariables false
set_option linter.unusedSimpArgs false

theorem rwithin_any (n lo hi : Int) (w : World) :
    Calls Try.prog 94 #[.int .i64 n, .int .i64 lo, .int .i64 hi] w fun e w' => e = .returned (.bool (decide (lo ≤ n ∧ n ≤ hi))) ∧ Below w.heap.size w w' := by
  by_cases h : lo ≤ n ∧ n ≤ hi
  · rw [decide_eq_true h]; exact (rwithin_yes n lo hi h.1 h.2 w).mono fun e w' k => ⟨k.1, by rw [k.2]; exact Below.refl _ _⟩
  · rw [decide_eq_false h]; exact (rwithin_no n lo hi h w).mono fun e w' k => ⟨k.1, by rw [k.2]; exact Below.refl _ _⟩
set_option maxRecDepth 100000 in
set_option maxHeartbeats 16000000 in
theorem rsmall_walk (a b : Int) (B : Bool) (w : World) (HW : Hid (∀ w, Calls Try.prog 94 #[.int .i64 a, .int .i64 (-1000000), .int .i64 1000000] w fun e w' => e = .returned (.bool B) ∧ Below w.heap.size w w')) :
    Calls Try.prog 95 #[.agg #[.int .i64 a, .int .i64 b]] w fun e w' => e = .returned (.bool (B && decide (b ≤ 1000000))) ∧ Below w.heap.size w w' := by
  go_enter Try.func95, Try.ntmps95
  go_wp2_with fail
  refine (HW.out _).mono ?_
  rintro e w1 ⟨rfl, hb⟩
  have kn0 : Blk w1 (w.heap.size) #[.int .i64 a, .int .i64 b] 23 := Blk.later hb (by (repeat' first | (with_reducible assumption) | ((with_reducible refine Blk.new ?_); first | rfl | (simp; done)) | (with_reducible refine Blk.alloc ?_)))
  have k0 := kn0; clear kn0; obtain ⟨a0, b0⟩ := k0.read; have y0 := k0.lt
  have hBw : Below w.heap.size w w1 := by (repeat' (first | (with_reducible exact Below.refl _ _) | (with_reducible assumption) | (with_reducible refine belowThru ?_ (by assumption)) | (with_reducible refine belowAlloc ?_) | (with_reducible refine Below.setCell ?_ (by first | omega | (simp; done) | (simp; omega)) _) | (with_reducible refine Below.drew ?_) | (with_reducible refine below_drewN ?_ _)))
  have hzw1 := hBw.size
  clear hb
  cases B
  · go_wp2_with fail
    go_ret
    exact ⟨rfl, by (repeat' first | (with_reducible exact Below.refl _ _) | (with_reducible assumption) | (with_reducible refine belowThru ?_ (by assumption)) | (with_reducible refine belowAlloc ?_))⟩
  · by_cases hb : b ≤ 1000000
    · have hd : decide (b ≤ 1000000) = true := decide_eq_true hb
      go_wp2_with fail
      go_ret
      exact ⟨by simp [hd], by (repeat' first | (with_reducible exact Below.refl _ _) | (with_reducible assumption) | (with_reducible refine belowThru ?_ (by assumption)) | (with_reducible refine belowAlloc ?_))⟩
    · have hd : decide (b ≤ 1000000) = false := decide_eq_false hb
      go_wp2_with fail
      go_ret
      exact ⟨by simp [hd], by (repeat' first | (with_reducible exact Below.refl _ _) | (with_reducible assumption) | (with_reducible refine belowThru ?_ (by assumption)) | (with_reducible refine belowAlloc ?_))⟩
set_option maxRecDepth 100000 in
set_option maxHeartbeats 16000000 in
theorem rvg_walk (t n s1 s2 s3 s4 l1 l2 h1 h2 : Int) (B1 B2 B3 B4 B5 B6 B7 B8 : Bool) (w : World) (H1 : Hid (∀ w, Calls Try.prog 94 #[.int .i64 t, .int .i64 1, .int .i64 255] w fun e w' => e = .returned (.bool B1) ∧ Below w.heap.size w w')) (H2 : Hid (∀ w, Calls Try.prog 94 #[.int .i64 n, .int .i64 0, .int .i64 64] w fun e w' => e = .returned (.bool B2) ∧ Below w.heap.size w w')) (H3 : Hid (∀ w, Calls Try.prog 83 #[.agg #[.int .i64 s1, .int .i64 s2, .int .i64 s3, .int .i64 s4]] w fun e w' => e = .returned (.bool B3) ∧ Below w.heap.size w w')) (H4 : Hid (∀ w, Calls Try.prog 83 #[.agg #[.int .i64 l1, .int .i64 l2, .int .i64 h1, .int .i64 h2]] w fun e w' => e = .returned (.bool B4) ∧ Below w.heap.size w w')) (H5 : Hid (∀ w, Calls Try.prog 95 #[.agg #[.int .i64 s1, .int .i64 s2]] w fun e w' => e = .returned (.bool B5) ∧ Below w.heap.size w w')) (H6 : Hid (∀ w, Calls Try.prog 95 #[.agg #[.int .i64 s3, .int .i64 s4]] w fun e w' => e = .returned (.bool B6) ∧ Below w.heap.size w w')) (H7 : Hid (∀ w, Calls Try.prog 95 #[.agg #[.int .i64 l1, .int .i64 l2]] w fun e w' => e = .returned (.bool B7) ∧ Below w.heap.size w w')) (H8 : Hid (∀ w, Calls Try.prog 95 #[.agg #[.int .i64 h1, .int .i64 h2]] w fun e w' => e = .returned (.bool B8) ∧ Below w.heap.size w w')) :
    Calls Try.prog 56 #[.agg #[.int .i64 t, .int .i64 n, .int .i64 s1, .int .i64 s2, .int .i64 s3, .int .i64 s4, .int .i64 l1, .int .i64 l2, .int .i64 h1, .int .i64 h2]] w fun e w' => e = .returned (.bool (B1 && B2 && B3 && B4 && decide (0 < s1) && B5 && B6 && B7 && B8)) ∧ Below w.heap.size w w' := by
  go_enter Try.func56, Try.ntmps56
  go_wp2_with fail
  refine (H1.out _).mono ?_
  rintro e w1 ⟨rfl, hb⟩
  have kn0 : Blk w1 (w.heap.size) #[.int .i64 t, .int .i64 n, .int .i64 s1, .int .i64 s2, .int .i64 s3, .int .i64 s4, .int .i64 l1, .int .i64 l2, .int .i64 h1, .int .i64 h2] 41 := Blk.later hb (by (repeat' first | (with_reducible assumption) | ((with_reducible refine Blk.new ?_); first | rfl | (simp; done)) | (with_reducible refine Blk.alloc ?_)))
  have k0 := kn0; clear kn0; obtain ⟨a0, b0⟩ := k0.read; have y0 := k0.lt
  have hBw : Below w.heap.size w w1 := by (repeat' first | (with_reducible exact Below.refl _ _) | (with_reducible assumption) | (with_reducible refine belowThru ?_ (by assumption)) | (with_reducible refine belowAlloc ?_))
  have hzw1 := hBw.size
  clear hb
  cases B1
  · go_wp2_with fail
    go_ret
    exact ⟨rfl, by (repeat' first | (with_reducible exact Below.refl _ _) | (with_reducible assumption) | (with_reducible refine belowThru ?_ (by assumption)) | (with_reducible refine belowAlloc ?_))⟩
  ·
    go_wp2_with fail
    refine (H2.out _).mono ?_
    rintro e w2 ⟨rfl, hb⟩
    have kn0 : Blk w2 (w.heap.size) #[.int .i64 t, .int .i64 n, .int .i64 s1, .int .i64 s2, .int .i64 s3, .int .i64 s4, .int .i64 l1, .int .i64 l2, .int .i64 h1, .int .i64 h2] 41 := Blk.later hb (by (repeat' first | (with_reducible assumption) | ((with_reducible refine Blk.new ?_); first | rfl | (simp; done)) | (with_reducible refine Blk.alloc ?_)))
    clear k0 a0 b0 y0
    have k0 := kn0; clear kn0; obtain ⟨a0, b0⟩ := k0.read; have y0 := k0.lt
    replace hBw : Below w.heap.size w w2 := belowThru (by (repeat' first | (with_reducible exact Below.refl _ _) | (with_reducible assumption) | (with_reducible refine belowThru ?_ (by assumption)) | (with_reducible refine belowAlloc ?_))) hb
    have hzw2 := hBw.size
    clear hb
    cases B2
    · go_wp2_with fail
      go_ret
      exact ⟨rfl, by (repeat' first | (with_reducible exact Below.refl _ _) | (with_reducible assumption) | (with_reducible refine belowThru ?_ (by assumption)) | (with_reducible refine belowAlloc ?_))⟩
    ·
      go_wp2_with fail
      refine (H3.out _).mono ?_
      rintro e w3 ⟨rfl, hb⟩
      have kn0 : Blk w3 (w.heap.size) #[.int .i64 t, .int .i64 n, .int .i64 s1, .int .i64 s2, .int .i64 s3, .int .i64 s4, .int .i64 l1, .int .i64 l2, .int .i64 h1, .int .i64 h2] 41 := Blk.later hb (by (repeat' first | (with_reducible assumption) | ((with_reducible refine Blk.new ?_); first | rfl | (simp; done)) | (with_reducible refine Blk.alloc ?_)))
      clear k0 a0 b0 y0
      have k0 := kn0; clear kn0; obtain ⟨a0, b0⟩ := k0.read; have y0 := k0.lt
      replace hBw : Below w.heap.size w w3 := belowThru (by (repeat' first | (with_reducible exact Below.refl _ _) | (with_reducible assumption) | (with_reducible refine belowThru ?_ (by assumption)) | (with_reducible refine belowAlloc ?_))) hb
      have hzw3 := hBw.size
      clear hb
      cases B3
      · go_wp2_with fail
        go_ret
        exact ⟨rfl, by (repeat' first | (with_reducible exact Below.refl _ _) | (with_reducible assumption) | (with_reducible refine belowThru ?_ (by assumption)) | (with_reducible refine belowAlloc ?_))⟩
      ·
        go_wp2_with fail
        refine (H4.out _).mono ?_
        rintro e w4 ⟨rfl, hb⟩
        have kn0 : Blk w4 (w.heap.size) #[.int .i64 t, .int .i64 n, .int .i64 s1, .int .i64 s2, .int .i64 s3, .int .i64 s4, .int .i64 l1, .int .i64 l2, .int .i64 h1, .int .i64 h2] 41 := Blk.later hb (by (repeat' first | (with_reducible assumption) | ((with_reducible refine Blk.new ?_); first | rfl | (simp; done)) | (with_reducible refine Blk.alloc ?_)))
        clear k0 a0 b0 y0
        have k0 := kn0; clear kn0; obtain ⟨a0, b0⟩ := k0.read; have y0 := k0.lt
        replace hBw : Below w.heap.size w w4 := belowThru (by (repeat' first | (with_reducible exact Below.refl _ _) | (with_reducible assumption) | (with_reducible refine belowThru ?_ (by assumption)) | (with_reducible refine belowAlloc ?_))) hb
        have hzw4 := hBw.size
        clear hb
        cases B4
        · go_wp2_with fail
          go_ret
          exact ⟨rfl, by (repeat' first | (with_reducible exact Below.refl _ _) | (with_reducible assumption) | (with_reducible refine belowThru ?_ (by assumption)) | (with_reducible refine belowAlloc ?_))⟩
        ·
          by_cases h0 : 0 < s1
          case neg =>
            have hd : decide (0 < s1) = false := decide_eq_false h0
            go_wp2_with fail
            go_ret
            exact ⟨by simp [hd], by (repeat' first | (with_reducible exact Below.refl _ _) | (with_reducible assumption) | (with_reducible refine belowThru ?_ (by assumption)) | (with_reducible refine belowAlloc ?_))⟩
          have hd : decide (0 < s1) = true := decide_eq_true h0
          go_wp2_with fail
          refine (H5.out _).mono ?_
          rintro e w5 ⟨rfl, hb⟩
          have kn0 : Blk w5 (w.heap.size) #[.int .i64 t, .int .i64 n, .int .i64 s1, .int .i64 s2, .int .i64 s3, .int .i64 s4, .int .i64 l1, .int .i64 l2, .int .i64 h1, .int .i64 h2] 41 := Blk.later hb (by (repeat' first | (with_reducible assumption) | ((with_reducible refine Blk.new ?_); first | rfl | (simp; done)) | (with_reducible refine Blk.alloc ?_)))
          clear k0 a0 b0 y0
          have k0 := kn0; clear kn0; obtain ⟨a0, b0⟩ := k0.read; have y0 := k0.lt
          replace hBw : Below w.heap.size w w5 := belowThru (by (repeat' first | (with_reducible exact Below.refl _ _) | (with_reducible assumption) | (with_reducible refine belowThru ?_ (by assumption)) | (with_reducible refine belowAlloc ?_))) hb
          have hzw5 := hBw.size
          clear hb
          cases B5
          · go_wp2_with fail
            go_ret
            exact ⟨by simp [hd], by (repeat' first | (with_reducible exact Below.refl _ _) | (with_reducible assumption) | (with_reducible refine belowThru ?_ (by assumption)) | (with_reducible refine belowAlloc ?_))⟩
          ·
            go_wp2_with fail
            refine (H6.out _).mono ?_
            rintro e w6 ⟨rfl, hb⟩
            have kn0 : Blk w6 (w.heap.size) #[.int .i64 t, .int .i64 n, .int .i64 s1, .int .i64 s2, .int .i64 s3, .int .i64 s4, .int .i64 l1, .int .i64 l2, .int .i64 h1, .int .i64 h2] 41 := Blk.later hb (by (repeat' first | (with_reducible assumption) | ((with_reducible refine Blk.new ?_); first | rfl | (simp; done)) | (with_reducible refine Blk.alloc ?_)))
            clear k0 a0 b0 y0
            have k0 := kn0; clear kn0; obtain ⟨a0, b0⟩ := k0.read; have y0 := k0.lt
            replace hBw : Below w.heap.size w w6 := belowThru (by (repeat' first | (with_reducible exact Below.refl _ _) | (with_reducible assumption) | (with_reducible refine belowThru ?_ (by assumption)) | (with_reducible refine belowAlloc ?_))) hb
            have hzw6 := hBw.size
            clear hb
            cases B6
            · go_wp2_with fail
              go_ret
              exact ⟨by simp [hd], by (repeat' first | (with_reducible exact Below.refl _ _) | (with_reducible assumption) | (with_reducible refine belowThru ?_ (by assumption)) | (with_reducible refine belowAlloc ?_))⟩
            ·
              go_wp2_with fail
              refine (H7.out _).mono ?_
              rintro e w7 ⟨rfl, hb⟩
              have kn0 : Blk w7 (w.heap.size) #[.int .i64 t, .int .i64 n, .int .i64 s1, .int .i64 s2, .int .i64 s3, .int .i64 s4, .int .i64 l1, .int .i64 l2, .int .i64 h1, .int .i64 h2] 41 := Blk.later hb (by (repeat' first | (with_reducible assumption) | ((with_reducible refine Blk.new ?_); first | rfl | (simp; done)) | (with_reducible refine Blk.alloc ?_)))
              clear k0 a0 b0 y0
              have k0 := kn0; clear kn0; obtain ⟨a0, b0⟩ := k0.read; have y0 := k0.lt
              replace hBw : Below w.heap.size w w7 := belowThru (by (repeat' first | (with_reducible exact Below.refl _ _) | (with_reducible assumption) | (with_reducible refine belowThru ?_ (by assumption)) | (with_reducible refine belowAlloc ?_))) hb
              have hzw7 := hBw.size
              clear hb
              cases B7
              · go_wp2_with fail
                go_ret
                exact ⟨by simp [hd], by (repeat' first | (with_reducible exact Below.refl _ _) | (with_reducible assumption) | (with_reducible refine belowThru ?_ (by assumption)) | (with_reducible refine belowAlloc ?_))⟩
              ·
                go_wp2_with fail
                refine (H8.out _).mono ?_
                rintro e w8 ⟨rfl, hb⟩
                have kn0 : Blk w8 (w.heap.size) #[.int .i64 t, .int .i64 n, .int .i64 s1, .int .i64 s2, .int .i64 s3, .int .i64 s4, .int .i64 l1, .int .i64 l2, .int .i64 h1, .int .i64 h2] 41 := Blk.later hb (by (repeat' first | (with_reducible assumption) | ((with_reducible refine Blk.new ?_); first | rfl | (simp; done)) | (with_reducible refine Blk.alloc ?_)))
                clear k0 a0 b0 y0
                have k0 := kn0; clear kn0; obtain ⟨a0, b0⟩ := k0.read; have y0 := k0.lt
                replace hBw : Below w.heap.size w w8 := belowThru (by (repeat' first | (with_reducible exact Below.refl _ _) | (with_reducible assumption) | (with_reducible refine belowThru ?_ (by assumption)) | (with_reducible refine belowAlloc ?_))) hb
                have hzw8 := hBw.size
                clear hb
                go_wp2_with fail
                go_ret
                exact ⟨by simp [hd], by (repeat' first | (with_reducible exact Below.refl _ _) | (with_reducible assumption) | (with_reducible refine belowThru ?_ (by assumption)) | (with_reducible refine belowAlloc ?_))⟩
instance (a b : Int) : Decidable (smF a b) := inferInstanceAs (Decidable ((_ ∧ _) ∧ _))
theorem rsmall_any (a b : Int) (w : World) : Calls Try.prog 95 #[.agg #[.int .i64 a, .int .i64 b]] w fun e w' => e = .returned (.bool (decide (smF a b))) ∧ Below w.heap.size w w' := by
  have e : decide (smF a b) = (decide (-1000000 ≤ a ∧ a ≤ 1000000) && decide (b ≤ 1000000)) := by rw [Bool.eq_iff_iff, Bool.and_eq_true, decide_eq_true_eq, decide_eq_true_eq, decide_eq_true_eq]; exact Iff.rfl
  rw [e]
  exact rsmall_walk a b _ w (Lib.hid fun w => rwithin_any a (-1000000) 1000000 w)
theorem rvg_any (t n s1 s2 s3 s4 l1 l2 h1 h2 : Int) (b1 : -9223372036854775808 ≤ s1 ∧ s1 ≤ 9223372036854775807) (b2 : -9223372036854775808 ≤ s3 ∧ s3 ≤ 9223372036854775807) (b3 : -9223372036854775808 ≤ l1 ∧ l1 ≤ 9223372036854775807) (b4 : -9223372036854775808 ≤ h1 ∧ h1 ≤ 9223372036854775807) :
    ∃ v : Bool, (v = true ↔ okG t n s1 s2 s3 s4 l1 l2 h1 h2) ∧ ∀ w, Calls Try.prog 56 #[.agg #[.int .i64 t, .int .i64 n, .int .i64 s1, .int .i64 s2, .int .i64 s3, .int .i64 s4, .int .i64 l1, .int .i64 l2, .int .i64 h1, .int .i64 h2]] w fun e w' => e = .returned (.bool v) ∧ Below w.heap.size w w' := by
  obtain ⟨p, hp, P⟩ := rvalidSpan s1 s2 s3 s4 b1.1 b1.2 b2.1 b2.2
  obtain ⟨q, hq, Q⟩ := rvalidSpan l1 l2 h1 h2 b3.1 b3.2 b4.1 b4.2
  refine ⟨_, ?_, fun w => rvg_walk t n s1 s2 s3 s4 l1 l2 h1 h2 _ _ p q _ _ _ _ w (Lib.hid fun w => rwithin_any t 1 255 w) (Lib.hid fun w => rwithin_any n 0 64 w) (Lib.hid P) (Lib.hid Q) (Lib.hid fun w => rsmall_any s1 s2 w) (Lib.hid fun w => rsmall_any s3 s4 w) (Lib.hid fun w => rsmall_any l1 l2 w) (Lib.hid fun w => rsmall_any h1 h2 w)⟩
  simp only [Bool.and_eq_true, decide_eq_true_eq, hp, hq]
  unfold okG okT okN
  constructor
  · rintro ⟨⟨⟨⟨⟨⟨⟨⟨a, b⟩, c⟩, d⟩, e⟩, f⟩, g⟩, h⟩, i⟩; exact ⟨a, b, c, d, e, f, g, h, i⟩
  · rintro ⟨a, b, c, d, e, f, g, h, i⟩; exact ⟨⟨⟨⟨⟨⟨⟨⟨a, b⟩, c⟩, d⟩, e⟩, f⟩, g⟩, h⟩, i⟩
end Go.Proofs.Ytbcgebobfnclnaa
