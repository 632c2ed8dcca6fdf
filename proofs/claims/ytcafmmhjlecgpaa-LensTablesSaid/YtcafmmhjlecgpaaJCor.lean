/-
  Layer 4: the corrected place, by the code.
-/
import Derived.IntWalk
import Derived.Test.YtcafmmhjlecgpaaInv
import Derived.Test.YtcafmmhjlecgpaaApi
import Derived.Test.YtcafmmhjlecgpaaJCorM
import Derived.Test.YtcafmmhjlecgpaaJSearch
namespace Go.Proofs.Ytcafmmhjlecgpaa
open Go.RowKit
set_option linter.unusedVariables false
set_option linter.unusedSimpArgs false

set_option maxHeartbeats 1000000 in
theorem corF_any (i n c bb oo Bl Bx : Nat) (X D Q : Int) (hi : i + 1 < n) (hn : n ≤ 1000) (hq1 : -4294967296 ≤ Q * D) (hq2 : Q * D ≤ 4294967296) (w : World)
    (c0 : w.cell? ⟨Bx, 0, none⟩ = some (.int .i64 X)) (c1 : w.cell? ⟨Bx, 1, none⟩ = some (.int .i64 D)) (c2 : w.cell? ⟨Bl, 0, none⟩ = some (.slice (some ⟨bb, oo, none⟩) n c)) (c3 : w.cell? ⟨bb, oo + (i + 1) * 2, none⟩ = some (.int .i64 Q)) :
    Calls Try.prog 92 #[.int .i64 i, .pointer (some ⟨Bx, 0, none⟩), .pointer (some ⟨Bl, 0, none⟩)] w fun e w' => e = .returned (.bool (decide (X ≤ Q * D))) ∧ Below w.heap.size w w' := by
  have p0 : (0 : Int) ≤ (i : Int) := by omega
  have p1 : (i : Int) + 1 < (n : Int) := by omega
  have p2 : (0 : Int) ≤ (i : Int) + 1 := by omega
  have p3 : ((i : Int) + 1).toNat = i + 1 := by omega
  have hw1 : IntKind.i64.wrap ((i : Int) + 1) = (i : Int) + 1 := IntWalk.i64_in _ (by omega)
  have hw2 : IntKind.i64.wrap (Q * D) = Q * D := IntWalk.i64_in _ (by omega)
  go_enter Try.func92, Try.ntmps92
  go_wp2
  go_quiet (fail)
  clear hw1 hw2
  go_wp2
  go_ret
  exact ⟨rfl, by (repeat' (first | (with_reducible exact Below.refl _ _) | (with_reducible assumption) | (with_reducible refine belowThru ?_ (by assumption)) | (with_reducible refine belowAlloc ?_) | (with_reducible refine Below.setCell ?_ (by first | omega | (simp; done) | (simp; omega)) _) | (with_reducible refine Below.drew ?_) | (with_reducible refine below_drewN ?_ _)))⟩

/-- What holds of the region whichever operations have come up. -/
def CoversI (m c bb oo : Nat) (X D P Q : Int) (v : Bool) (w : World) (i13 i14 i15 i16 i17 i18 i19 i20 i21 i22 i23 i24 i25 i26 i27 i28 i29 i30 i31 i32 i33 i4 : Value) (b9 : Act) (L9 : Array Bool) (a9 : Act) (w9 : World) : Prop :=
  ∃ (gg0 gg1 gg2 gg3 gg4 gg5 gg6 gg7 gg8 gg9 gg10 gg11 gg12 gg13 gg14 gg15 gg16 gg17 gg18 gg19 gg20 gg21 : Bool) (x19 : Nat), L9 = #[gg0, gg1, gg2, gg3, gg4, gg5, gg6, gg7, gg8, gg9, gg10, gg11, gg12, gg13, gg14, gg15, gg16, gg17, gg18, gg19, gg20, gg21] ∧ a9 = ((((((((((((((((((((((b9).put (some 13) (cond gg0 (.slice (some ⟨bb, oo, none⟩) (m + 1) c) (i13))).put (some 14) (cond gg1 (.pointer (some ⟨bb, oo, none⟩)) (i14))).put (some 15) (cond gg2 (.pointer (some ⟨bb, oo, none⟩)) (i15))).put (some 16) (cond gg3 (.int .i64 P) (i16))).put (some 17) (cond gg4 (.pointer (some ⟨w.heap.size, 1, none⟩)) (i17))).put (some 18) (cond gg5 (.int .i64 D) (i18))).put (some 19) (cond gg6 (.int .i64 (P * D)) (i19))).put (some 20) (cond gg7 (.slice (some ⟨bb, oo, none⟩) (m + 1) c) (i20))).put (some 21) (cond gg8 (.slice (some ⟨bb, oo, none⟩) (m + 1) c) (i21))).put (some 22) (cond gg9 (.int .i64 ((m : Int) + 1)) (i22))).put (some 23) (cond gg10 (.int .i64 (m : Int)) (i23))).put (some 24) (cond gg11 (.pointer (some ⟨bb, oo + m * 2, none⟩)) (i24))).put (some 25) (cond gg12 (.pointer (some ⟨bb, oo + m * 2, none⟩)) (i25))).put (some 26) (cond gg13 (.int .i64 Q) (i26))).put (some 27) (cond gg14 (.pointer (some ⟨w.heap.size, 1, none⟩)) (i27))).put (some 28) (cond gg15 (.int .i64 D) (i28))).put (some 29) (cond gg16 (.int .i64 (Q * D)) (i29))).put (some 30) (cond gg17 (.pointer (some ⟨w.heap.size, 0, none⟩)) (i30))).put (some 31) (cond gg18 (.int .i64 X) (i31))).put (some 32) (cond gg19 (.slice (some ⟨x19, 0, none⟩) 1 1) (i32))).put (some 33) (cond gg20 (.bool v) (i33))).put (some 4) (cond gg21 (.bool v) (i4)) ∧ Blk w9 w.heap.size #[.int .i64 X, .int .i64 D] 24 ∧ Below w.heap.size w w9 ∧ (w.heap.size + 1) ≤ w9.heap.size ∧ (gg19 = true → Blk w9 x19 #[.int .i64 X] 3 ∧ (w.heap.size + 1) ≤ x19)

set_option maxRecDepth 100000 in
set_option maxHeartbeats 4000000 in
set_option linter.unusedSimpArgs false in
theorem covers_walk (m c bb oo : Nat) (X D P Q : Int) (v : Bool) (w : World) (hm : m ≤ 1000) (hD : D ≤ 1048576) (g1 : -4294967296 ≤ P * D) (g2 : P * D ≤ 4294967296) (g3 : -4294967296 ≤ Q * D) (g4 : Q * D ≤ 4294967296)
    (HC0 : Hid (w.cell? ⟨bb, oo, none⟩ = some (.int .i64 P))) (HC1 : Hid (w.cell? ⟨bb, oo + m * 2, none⟩ = some (.int .i64 Q)))
    (HK : Hid (∀ w, Calls Try.prog 76 #[.agg #[.int .i64 X, .int .i64 D]] w fun e w' => e = .returned (.int .i64 0) ∧ Below w.heap.size w w'))
    (HW : Hid (∀ (B : Nat) (w : World), w.cell? ⟨B, 0, none⟩ = some (.int .i64 X) → Calls Try.prog 58 #[.int .i64 (P * D), .int .i64 (Q * D), .slice (some ⟨B, 0, none⟩) 1 1] w fun e w' => e = .returned (.bool v) ∧ Below w.heap.size w w')) :
    Calls Try.prog 50 #[.slice (some ⟨bb, oo, none⟩) (m + 1) c, .agg #[.int .i64 X, .int .i64 D]] w fun e w' => e = .returned (.bool v) ∧ Below w.heap.size w w' := by
  have p0 : (0 : Int) ≤ (m : Int) := by omega
  have p1 : (m : Int) ≤ 1000 := by omega
  have p2 : (m : Int) < (m : Int) + 1 := by omega
  have hw0 : IntKind.i64.wrap (m : Int) = (m : Int) := IntWalk.i64_in _ (by omega)
  have hw1 : IntKind.i64.wrap (P * D) = P * D := IntWalk.i64_in _ (by omega)
  have hw2 : IntKind.i64.wrap (Q * D) = Q * D := IntWalk.i64_in _ (by omega)
  go_enter Try.func50, Try.ntmps50
  go_upto_region 3 with (go_at_call 76; (with_reducible refine (HK.out _).mono ?_); rintro e w1 ⟨rfl, hb⟩; (first | ((with_reducible have k0 := Blk.later hb (Blk.new rfl)); skip; obtain ⟨a0, b0⟩ := k0.read; have zl := k0.lt) | ((try (have zk := k0.lt; (first | ((with_reducible refine Blk.keepG hb k0 (fun h => ?_) ?_); (focus ((repeat' (first | (with_reducible assumption) | ((with_reducible refine Blk.new ?_); first | rfl | (simp; done)) | (with_reducible refine Blk.later (by assumption) ?_) | (with_reducible refine Blk.alloc ?_) | (with_reducible refine Blk.drewN ?_) | (with_reducible refine Blk.drew ?_) | (with_reducible refine Blk.other ?_ (by first | omega | (simp; done) | (simp; omega))))); done)); clear k0; intro k0) | (with_reducible replace k0 := Blk.later hb (Blk.set (Blk.set k0))) | (with_reducible replace k0 := Blk.later hb (Blk.set k0))); clear a0 b0; obtain ⟨a0, b0⟩ := k0.read; have zl := k0.lt)))); clear HK)
  refine wp_region_inv (CoversI m c bb oo X D P Q v w ?i13 ?i14 ?i15 ?i16 ?i17 ?i18 ?i19 ?i20 ?i21 ?i22 ?i23 ?i24 ?i25 ?i26 ?i27 ?i28 ?i29 ?i30 ?i31 ?i32 ?i33 ?i4) (by kernel_rfl) (by kernel_rfl) ?hsz ?hst ?hstep ?hfin
  case hst =>
    unfold CoversI
    refine ⟨false, false, false, false, false, false, false, false, false, false, false, false, false, false, false, false, false, false, false, false, false, false, 0, rfl, ?_, ?_, ?_, ?_, ?_⟩
    · first | (simp only [Act.put, List.setIfInBounds_toArray, List.set_cons_zero, List.set_cons_succ, cond_false]; done) | (simp only [Act.put, List.setIfInBounds_toArray, List.set_cons_zero, List.set_cons_succ, cond_false]; rfl)
    all_goals (first | (intro h; cases h; done) | ((repeat' (first | (with_reducible assumption) | ((with_reducible refine Blk.new ?_); first | rfl | (simp; done)) | (with_reducible refine Blk.later (by assumption) ?_) | (with_reducible refine Blk.alloc ?_) | (with_reducible refine Blk.drewN ?_) | (with_reducible refine Blk.drew ?_) | (with_reducible refine Blk.other ?_ (by first | omega | (simp; done) | (simp; omega))))); done) | ((repeat' (first | (with_reducible exact Below.refl _ _) | (with_reducible assumption) | (with_reducible refine belowThru ?_ (by assumption)) | (with_reducible refine belowAlloc ?_) | (with_reducible refine Below.setCell ?_ (by first | omega | (simp; done) | (simp; omega)) _) | (with_reducible refine Below.drew ?_) | (with_reducible refine below_drewN ?_ _))); done) | (simp only [cond_false]; (repeat' (first | (with_reducible assumption) | ((with_reducible refine Blk.new ?_); first | rfl | (simp; done)) | (with_reducible refine Blk.later (by assumption) ?_) | (with_reducible refine Blk.alloc ?_) | (with_reducible refine Blk.drewN ?_) | (with_reducible refine Blk.drew ?_) | (with_reducible refine Blk.other ?_ (by first | omega | (simp; done) | (simp; omega))))); done) | (simp only [World.size_drew]; omega) | (simp only [World.size_drew] at *; omega) | (simp; done) | (simp; omega))
  case hsz =>
    intro L a w9 h
    obtain ⟨gg0, gg1, gg2, gg3, gg4, gg5, gg6, gg7, gg8, gg9, gg10, gg11, gg12, gg13, gg14, gg15, gg16, gg17, gg18, gg19, gg20, gg21, x19, rfl, -⟩ := h; rfl
  case hstep =>
    intro L a w9 hI i hi
    obtain ⟨gg0, gg1, gg2, gg3, gg4, gg5, gg6, gg7, gg8, gg9, gg10, gg11, gg12, gg13, gg14, gg15, gg16, gg17, gg18, gg19, gg20, gg21, x19, rfl, rfl, fb0, fB, fL, f19⟩ := hI
    obtain ⟨hi1, hi2, o, ho, hall⟩ := inv_mem hi
    clear hi
    rcases i with _ | _ | _ | _ | _ | _ | _ | _ | _ | _ | _ | _ | _ | _ | _ | _ | _ | _ | _ | _ | _ | _ | i
    · have ge0 : gg0 = false := hi2
      clear hall hi1 hi2
      subst ge0
      have ho2 := ho
      simp only [List.getElem?_toArray, List.getElem?_cons_zero, List.getElem?_cons_succ] at ho2
      have ho3 := Option.some.inj ho2; clear ho2; subst ho3
      obtain ⟨ba0, bb0⟩ := fb0.read; have bl0 := fb0.lt
      simp only [Act.put, List.setIfInBounds_toArray, List.set_cons_zero, List.set_cons_succ]
      simp only [cond_true, cond_false]
      refine inv_op ho (by kernel_rfl) (fun K hK => ?_)
      clear ho
      go_simp
      refine hK.out _ _ ?_
      unfold CoversI
      refine ⟨true, gg1, gg2, gg3, gg4, gg5, gg6, gg7, gg8, gg9, gg10, gg11, gg12, gg13, gg14, gg15, gg16, gg17, gg18, gg19, gg20, gg21, x19, rfl, by simp only [Act.put, List.setIfInBounds_toArray, List.set_cons_zero, List.set_cons_succ, cond_true, cond_false, Bool.cond_self], ?_, ?_, ?_, ?_⟩
      · exact fb0
      · exact fB
      · exact fL
      · exact f19
    · have ge1 : gg1 = false := hi2
      have ge0 : gg0 = true := inv_dep ho hall 0 (by kernel_rfl)
      clear hall hi1 hi2
      subst ge1 ge0
      have ho2 := ho
      simp only [List.getElem?_toArray, List.getElem?_cons_zero, List.getElem?_cons_succ] at ho2
      have ho3 := Option.some.inj ho2; clear ho2; subst ho3
      obtain ⟨ba0, bb0⟩ := fb0.read; have bl0 := fb0.lt
      simp only [Act.put, List.setIfInBounds_toArray, List.set_cons_zero, List.set_cons_succ]
      simp only [cond_true, cond_false]
      refine inv_op ho (by kernel_rfl) (fun K hK => ?_)
      clear ho
      go_simp
      refine hK.out _ _ ?_
      unfold CoversI
      refine ⟨true, true, gg2, gg3, gg4, gg5, gg6, gg7, gg8, gg9, gg10, gg11, gg12, gg13, gg14, gg15, gg16, gg17, gg18, gg19, gg20, gg21, x19, rfl, by simp only [Act.put, List.setIfInBounds_toArray, List.set_cons_zero, List.set_cons_succ, cond_true, cond_false, Bool.cond_self], ?_, ?_, ?_, ?_⟩
      · exact fb0
      · exact fB
      · exact fL
      · exact f19
    · have ge2 : gg2 = false := hi2
      have ge1 : gg1 = true := inv_dep ho hall 1 (by kernel_rfl)
      clear hall hi1 hi2
      subst ge2 ge1
      have ho2 := ho
      simp only [List.getElem?_toArray, List.getElem?_cons_zero, List.getElem?_cons_succ] at ho2
      have ho3 := Option.some.inj ho2; clear ho2; subst ho3
      obtain ⟨ba0, bb0⟩ := fb0.read; have bl0 := fb0.lt
      simp only [Act.put, List.setIfInBounds_toArray, List.set_cons_zero, List.set_cons_succ]
      simp only [cond_true, cond_false]
      refine inv_op ho (by kernel_rfl) (fun K hK => ?_)
      clear ho
      go_simp
      refine hK.out _ _ ?_
      unfold CoversI
      refine ⟨gg0, true, true, gg3, gg4, gg5, gg6, gg7, gg8, gg9, gg10, gg11, gg12, gg13, gg14, gg15, gg16, gg17, gg18, gg19, gg20, gg21, x19, rfl, by simp only [Act.put, List.setIfInBounds_toArray, List.set_cons_zero, List.set_cons_succ, cond_true, cond_false, Bool.cond_self], ?_, ?_, ?_, ?_⟩
      · exact fb0
      · exact fB
      · exact fL
      · exact f19
    · have ge3 : gg3 = false := hi2
      have ge2 : gg2 = true := inv_dep ho hall 2 (by kernel_rfl)
      clear hall hi1 hi2
      subst ge3 ge2
      have ho2 := ho
      simp only [List.getElem?_toArray, List.getElem?_cons_zero, List.getElem?_cons_succ] at ho2
      have ho3 := Option.some.inj ho2; clear ho2; subst ho3
      obtain ⟨ba0, bb0⟩ := fb0.read; have bl0 := fb0.lt
      have ce := cell_later fB HC0.out
      simp only [Act.put, List.setIfInBounds_toArray, List.set_cons_zero, List.set_cons_succ]
      simp only [cond_true, cond_false]
      refine inv_op ho (by kernel_rfl) (fun K hK => ?_)
      clear ho
      go_simp
      refine hK.out _ _ ?_
      unfold CoversI
      refine ⟨gg0, gg1, true, true, gg4, gg5, gg6, gg7, gg8, gg9, gg10, gg11, gg12, gg13, gg14, gg15, gg16, gg17, gg18, gg19, gg20, gg21, x19, rfl, by simp only [Act.put, List.setIfInBounds_toArray, List.set_cons_zero, List.set_cons_succ, cond_true, cond_false, Bool.cond_self], ?_, ?_, ?_, ?_⟩
      · exact fb0
      · exact fB
      · exact fL
      · exact f19
    · have ge4 : gg4 = false := hi2
      clear hall hi1 hi2
      subst ge4
      have ho2 := ho
      simp only [List.getElem?_toArray, List.getElem?_cons_zero, List.getElem?_cons_succ] at ho2
      have ho3 := Option.some.inj ho2; clear ho2; subst ho3
      obtain ⟨ba0, bb0⟩ := fb0.read; have bl0 := fb0.lt
      simp only [Act.put, List.setIfInBounds_toArray, List.set_cons_zero, List.set_cons_succ]
      simp only [cond_true, cond_false]
      refine inv_op ho (by kernel_rfl) (fun K hK => ?_)
      clear ho
      go_simp
      refine hK.out _ _ ?_
      unfold CoversI
      refine ⟨gg0, gg1, gg2, gg3, true, gg5, gg6, gg7, gg8, gg9, gg10, gg11, gg12, gg13, gg14, gg15, gg16, gg17, gg18, gg19, gg20, gg21, x19, rfl, by simp only [Act.put, List.setIfInBounds_toArray, List.set_cons_zero, List.set_cons_succ, cond_true, cond_false, Bool.cond_self], ?_, ?_, ?_, ?_⟩
      · exact fb0
      · exact fB
      · exact fL
      · exact f19
    · have ge5 : gg5 = false := hi2
      have ge4 : gg4 = true := inv_dep ho hall 4 (by kernel_rfl)
      clear hall hi1 hi2
      subst ge5 ge4
      have ho2 := ho
      simp only [List.getElem?_toArray, List.getElem?_cons_zero, List.getElem?_cons_succ] at ho2
      have ho3 := Option.some.inj ho2; clear ho2; subst ho3
      obtain ⟨ba0, bb0⟩ := fb0.read; have bl0 := fb0.lt
      simp only [Act.put, List.setIfInBounds_toArray, List.set_cons_zero, List.set_cons_succ]
      simp only [cond_true, cond_false]
      refine inv_op ho (by kernel_rfl) (fun K hK => ?_)
      clear ho
      go_simp
      refine hK.out _ _ ?_
      unfold CoversI
      refine ⟨gg0, gg1, gg2, gg3, true, true, gg6, gg7, gg8, gg9, gg10, gg11, gg12, gg13, gg14, gg15, gg16, gg17, gg18, gg19, gg20, gg21, x19, rfl, by simp only [Act.put, List.setIfInBounds_toArray, List.set_cons_zero, List.set_cons_succ, cond_true, cond_false, Bool.cond_self], ?_, ?_, ?_, ?_⟩
      · exact fb0
      · exact fB
      · exact fL
      · exact f19
    · have ge6 : gg6 = false := hi2
      have ge3 : gg3 = true := inv_dep ho hall 3 (by kernel_rfl)
      have ge5 : gg5 = true := inv_dep ho hall 5 (by kernel_rfl)
      clear hall hi1 hi2
      subst ge6 ge3 ge5
      have ho2 := ho
      simp only [List.getElem?_toArray, List.getElem?_cons_zero, List.getElem?_cons_succ] at ho2
      have ho3 := Option.some.inj ho2; clear ho2; subst ho3
      obtain ⟨ba0, bb0⟩ := fb0.read; have bl0 := fb0.lt
      simp only [Act.put, List.setIfInBounds_toArray, List.set_cons_zero, List.set_cons_succ]
      simp only [cond_true, cond_false]
      refine inv_op ho (by kernel_rfl) (fun K hK => ?_)
      clear ho
      go_simp
      refine hK.out _ _ ?_
      unfold CoversI
      refine ⟨gg0, gg1, gg2, true, gg4, true, true, gg7, gg8, gg9, gg10, gg11, gg12, gg13, gg14, gg15, gg16, gg17, gg18, gg19, gg20, gg21, x19, rfl, by simp only [Act.put, List.setIfInBounds_toArray, List.set_cons_zero, List.set_cons_succ, cond_true, cond_false, Bool.cond_self], ?_, ?_, ?_, ?_⟩
      · exact fb0
      · exact fB
      · exact fL
      · exact f19
    · have ge7 : gg7 = false := hi2
      clear hall hi1 hi2
      subst ge7
      have ho2 := ho
      simp only [List.getElem?_toArray, List.getElem?_cons_zero, List.getElem?_cons_succ] at ho2
      have ho3 := Option.some.inj ho2; clear ho2; subst ho3
      obtain ⟨ba0, bb0⟩ := fb0.read; have bl0 := fb0.lt
      simp only [Act.put, List.setIfInBounds_toArray, List.set_cons_zero, List.set_cons_succ]
      simp only [cond_true, cond_false]
      refine inv_op ho (by kernel_rfl) (fun K hK => ?_)
      clear ho
      go_simp
      refine hK.out _ _ ?_
      unfold CoversI
      refine ⟨gg0, gg1, gg2, gg3, gg4, gg5, gg6, true, gg8, gg9, gg10, gg11, gg12, gg13, gg14, gg15, gg16, gg17, gg18, gg19, gg20, gg21, x19, rfl, by simp only [Act.put, List.setIfInBounds_toArray, List.set_cons_zero, List.set_cons_succ, cond_true, cond_false, Bool.cond_self], ?_, ?_, ?_, ?_⟩
      · exact fb0
      · exact fB
      · exact fL
      · exact f19
    · have ge8 : gg8 = false := hi2
      clear hall hi1 hi2
      subst ge8
      have ho2 := ho
      simp only [List.getElem?_toArray, List.getElem?_cons_zero, List.getElem?_cons_succ] at ho2
      have ho3 := Option.some.inj ho2; clear ho2; subst ho3
      obtain ⟨ba0, bb0⟩ := fb0.read; have bl0 := fb0.lt
      simp only [Act.put, List.setIfInBounds_toArray, List.set_cons_zero, List.set_cons_succ]
      simp only [cond_true, cond_false]
      refine inv_op ho (by kernel_rfl) (fun K hK => ?_)
      clear ho
      go_simp
      refine hK.out _ _ ?_
      unfold CoversI
      refine ⟨gg0, gg1, gg2, gg3, gg4, gg5, gg6, gg7, true, gg9, gg10, gg11, gg12, gg13, gg14, gg15, gg16, gg17, gg18, gg19, gg20, gg21, x19, rfl, by simp only [Act.put, List.setIfInBounds_toArray, List.set_cons_zero, List.set_cons_succ, cond_true, cond_false, Bool.cond_self], ?_, ?_, ?_, ?_⟩
      · exact fb0
      · exact fB
      · exact fL
      · exact f19
    · have ge9 : gg9 = false := hi2
      have ge8 : gg8 = true := inv_dep ho hall 8 (by kernel_rfl)
      clear hall hi1 hi2
      subst ge9 ge8
      have ho2 := ho
      simp only [List.getElem?_toArray, List.getElem?_cons_zero, List.getElem?_cons_succ] at ho2
      have ho3 := Option.some.inj ho2; clear ho2; subst ho3
      obtain ⟨ba0, bb0⟩ := fb0.read; have bl0 := fb0.lt
      simp only [Act.put, List.setIfInBounds_toArray, List.set_cons_zero, List.set_cons_succ]
      simp only [cond_true, cond_false]
      refine inv_op ho (by kernel_rfl) (fun K hK => ?_)
      clear ho
      go_simp
      refine hK.out _ _ ?_
      unfold CoversI
      refine ⟨gg0, gg1, gg2, gg3, gg4, gg5, gg6, gg7, true, true, gg10, gg11, gg12, gg13, gg14, gg15, gg16, gg17, gg18, gg19, gg20, gg21, x19, rfl, by simp only [Act.put, List.setIfInBounds_toArray, List.set_cons_zero, List.set_cons_succ, cond_true, cond_false, Bool.cond_self], ?_, ?_, ?_, ?_⟩
      · exact fb0
      · exact fB
      · exact fL
      · exact f19
    · have ge10 : gg10 = false := hi2
      have ge9 : gg9 = true := inv_dep ho hall 9 (by kernel_rfl)
      clear hall hi1 hi2
      subst ge10 ge9
      have ho2 := ho
      simp only [List.getElem?_toArray, List.getElem?_cons_zero, List.getElem?_cons_succ] at ho2
      have ho3 := Option.some.inj ho2; clear ho2; subst ho3
      obtain ⟨ba0, bb0⟩ := fb0.read; have bl0 := fb0.lt
      simp only [Act.put, List.setIfInBounds_toArray, List.set_cons_zero, List.set_cons_succ]
      simp only [cond_true, cond_false]
      refine inv_op ho (by kernel_rfl) (fun K hK => ?_)
      clear ho
      go_simp
      refine hK.out _ _ ?_
      unfold CoversI
      refine ⟨gg0, gg1, gg2, gg3, gg4, gg5, gg6, gg7, gg8, true, true, gg11, gg12, gg13, gg14, gg15, gg16, gg17, gg18, gg19, gg20, gg21, x19, rfl, by simp only [Act.put, List.setIfInBounds_toArray, List.set_cons_zero, List.set_cons_succ, cond_true, cond_false, Bool.cond_self], ?_, ?_, ?_, ?_⟩
      · exact fb0
      · exact fB
      · exact fL
      · exact f19
    · have ge11 : gg11 = false := hi2
      have ge7 : gg7 = true := inv_dep ho hall 7 (by kernel_rfl)
      have ge10 : gg10 = true := inv_dep ho hall 10 (by kernel_rfl)
      clear hall hi1 hi2
      subst ge11 ge7 ge10
      have ho2 := ho
      simp only [List.getElem?_toArray, List.getElem?_cons_zero, List.getElem?_cons_succ] at ho2
      have ho3 := Option.some.inj ho2; clear ho2; subst ho3
      obtain ⟨ba0, bb0⟩ := fb0.read; have bl0 := fb0.lt
      simp only [Act.put, List.setIfInBounds_toArray, List.set_cons_zero, List.set_cons_succ]
      simp only [cond_true, cond_false]
      refine inv_op ho (by kernel_rfl) (fun K hK => ?_)
      clear ho
      go_simp
      refine hK.out _ _ ?_
      unfold CoversI
      refine ⟨gg0, gg1, gg2, gg3, gg4, gg5, gg6, true, gg8, gg9, true, true, gg12, gg13, gg14, gg15, gg16, gg17, gg18, gg19, gg20, gg21, x19, rfl, by simp only [Act.put, List.setIfInBounds_toArray, List.set_cons_zero, List.set_cons_succ, cond_true, cond_false, Bool.cond_self], ?_, ?_, ?_, ?_⟩
      · exact fb0
      · exact fB
      · exact fL
      · exact f19
    · have ge12 : gg12 = false := hi2
      have ge11 : gg11 = true := inv_dep ho hall 11 (by kernel_rfl)
      clear hall hi1 hi2
      subst ge12 ge11
      have ho2 := ho
      simp only [List.getElem?_toArray, List.getElem?_cons_zero, List.getElem?_cons_succ] at ho2
      have ho3 := Option.some.inj ho2; clear ho2; subst ho3
      obtain ⟨ba0, bb0⟩ := fb0.read; have bl0 := fb0.lt
      simp only [Act.put, List.setIfInBounds_toArray, List.set_cons_zero, List.set_cons_succ]
      simp only [cond_true, cond_false]
      refine inv_op ho (by kernel_rfl) (fun K hK => ?_)
      clear ho
      go_simp
      refine hK.out _ _ ?_
      unfold CoversI
      refine ⟨gg0, gg1, gg2, gg3, gg4, gg5, gg6, gg7, gg8, gg9, gg10, true, true, gg13, gg14, gg15, gg16, gg17, gg18, gg19, gg20, gg21, x19, rfl, by simp only [Act.put, List.setIfInBounds_toArray, List.set_cons_zero, List.set_cons_succ, cond_true, cond_false, Bool.cond_self], ?_, ?_, ?_, ?_⟩
      · exact fb0
      · exact fB
      · exact fL
      · exact f19
    · have ge13 : gg13 = false := hi2
      have ge12 : gg12 = true := inv_dep ho hall 12 (by kernel_rfl)
      clear hall hi1 hi2
      subst ge13 ge12
      have ho2 := ho
      simp only [List.getElem?_toArray, List.getElem?_cons_zero, List.getElem?_cons_succ] at ho2
      have ho3 := Option.some.inj ho2; clear ho2; subst ho3
      obtain ⟨ba0, bb0⟩ := fb0.read; have bl0 := fb0.lt
      have ce := cell_later fB HC1.out
      simp only [Act.put, List.setIfInBounds_toArray, List.set_cons_zero, List.set_cons_succ]
      simp only [cond_true, cond_false]
      refine inv_op ho (by kernel_rfl) (fun K hK => ?_)
      clear ho
      go_simp
      refine hK.out _ _ ?_
      unfold CoversI
      refine ⟨gg0, gg1, gg2, gg3, gg4, gg5, gg6, gg7, gg8, gg9, gg10, gg11, true, true, gg14, gg15, gg16, gg17, gg18, gg19, gg20, gg21, x19, rfl, by simp only [Act.put, List.setIfInBounds_toArray, List.set_cons_zero, List.set_cons_succ, cond_true, cond_false, Bool.cond_self], ?_, ?_, ?_, ?_⟩
      · exact fb0
      · exact fB
      · exact fL
      · exact f19
    · have ge14 : gg14 = false := hi2
      clear hall hi1 hi2
      subst ge14
      have ho2 := ho
      simp only [List.getElem?_toArray, List.getElem?_cons_zero, List.getElem?_cons_succ] at ho2
      have ho3 := Option.some.inj ho2; clear ho2; subst ho3
      obtain ⟨ba0, bb0⟩ := fb0.read; have bl0 := fb0.lt
      simp only [Act.put, List.setIfInBounds_toArray, List.set_cons_zero, List.set_cons_succ]
      simp only [cond_true, cond_false]
      refine inv_op ho (by kernel_rfl) (fun K hK => ?_)
      clear ho
      go_simp
      refine hK.out _ _ ?_
      unfold CoversI
      refine ⟨gg0, gg1, gg2, gg3, gg4, gg5, gg6, gg7, gg8, gg9, gg10, gg11, gg12, gg13, true, gg15, gg16, gg17, gg18, gg19, gg20, gg21, x19, rfl, by simp only [Act.put, List.setIfInBounds_toArray, List.set_cons_zero, List.set_cons_succ, cond_true, cond_false, Bool.cond_self], ?_, ?_, ?_, ?_⟩
      · exact fb0
      · exact fB
      · exact fL
      · exact f19
    · have ge15 : gg15 = false := hi2
      have ge14 : gg14 = true := inv_dep ho hall 14 (by kernel_rfl)
      clear hall hi1 hi2
      subst ge15 ge14
      have ho2 := ho
      simp only [List.getElem?_toArray, List.getElem?_cons_zero, List.getElem?_cons_succ] at ho2
      have ho3 := Option.some.inj ho2; clear ho2; subst ho3
      obtain ⟨ba0, bb0⟩ := fb0.read; have bl0 := fb0.lt
      simp only [Act.put, List.setIfInBounds_toArray, List.set_cons_zero, List.set_cons_succ]
      simp only [cond_true, cond_false]
      refine inv_op ho (by kernel_rfl) (fun K hK => ?_)
      clear ho
      go_simp
      refine hK.out _ _ ?_
      unfold CoversI
      refine ⟨gg0, gg1, gg2, gg3, gg4, gg5, gg6, gg7, gg8, gg9, gg10, gg11, gg12, gg13, true, true, gg16, gg17, gg18, gg19, gg20, gg21, x19, rfl, by simp only [Act.put, List.setIfInBounds_toArray, List.set_cons_zero, List.set_cons_succ, cond_true, cond_false, Bool.cond_self], ?_, ?_, ?_, ?_⟩
      · exact fb0
      · exact fB
      · exact fL
      · exact f19
    · have ge16 : gg16 = false := hi2
      have ge13 : gg13 = true := inv_dep ho hall 13 (by kernel_rfl)
      have ge15 : gg15 = true := inv_dep ho hall 15 (by kernel_rfl)
      clear hall hi1 hi2
      subst ge16 ge13 ge15
      have ho2 := ho
      simp only [List.getElem?_toArray, List.getElem?_cons_zero, List.getElem?_cons_succ] at ho2
      have ho3 := Option.some.inj ho2; clear ho2; subst ho3
      obtain ⟨ba0, bb0⟩ := fb0.read; have bl0 := fb0.lt
      simp only [Act.put, List.setIfInBounds_toArray, List.set_cons_zero, List.set_cons_succ]
      simp only [cond_true, cond_false]
      refine inv_op ho (by kernel_rfl) (fun K hK => ?_)
      clear ho
      go_simp
      refine hK.out _ _ ?_
      unfold CoversI
      refine ⟨gg0, gg1, gg2, gg3, gg4, gg5, gg6, gg7, gg8, gg9, gg10, gg11, gg12, true, gg14, true, true, gg17, gg18, gg19, gg20, gg21, x19, rfl, by simp only [Act.put, List.setIfInBounds_toArray, List.set_cons_zero, List.set_cons_succ, cond_true, cond_false, Bool.cond_self], ?_, ?_, ?_, ?_⟩
      · exact fb0
      · exact fB
      · exact fL
      · exact f19
    · have ge17 : gg17 = false := hi2
      clear hall hi1 hi2
      subst ge17
      have ho2 := ho
      simp only [List.getElem?_toArray, List.getElem?_cons_zero, List.getElem?_cons_succ] at ho2
      have ho3 := Option.some.inj ho2; clear ho2; subst ho3
      obtain ⟨ba0, bb0⟩ := fb0.read; have bl0 := fb0.lt
      simp only [Act.put, List.setIfInBounds_toArray, List.set_cons_zero, List.set_cons_succ]
      simp only [cond_true, cond_false]
      refine inv_op ho (by kernel_rfl) (fun K hK => ?_)
      clear ho
      go_simp
      refine hK.out _ _ ?_
      unfold CoversI
      refine ⟨gg0, gg1, gg2, gg3, gg4, gg5, gg6, gg7, gg8, gg9, gg10, gg11, gg12, gg13, gg14, gg15, gg16, true, gg18, gg19, gg20, gg21, x19, rfl, by simp only [Act.put, List.setIfInBounds_toArray, List.set_cons_zero, List.set_cons_succ, cond_true, cond_false, Bool.cond_self], ?_, ?_, ?_, ?_⟩
      · exact fb0
      · exact fB
      · exact fL
      · exact f19
    · have ge18 : gg18 = false := hi2
      have ge17 : gg17 = true := inv_dep ho hall 17 (by kernel_rfl)
      clear hall hi1 hi2
      subst ge18 ge17
      have ho2 := ho
      simp only [List.getElem?_toArray, List.getElem?_cons_zero, List.getElem?_cons_succ] at ho2
      have ho3 := Option.some.inj ho2; clear ho2; subst ho3
      obtain ⟨ba0, bb0⟩ := fb0.read; have bl0 := fb0.lt
      simp only [Act.put, List.setIfInBounds_toArray, List.set_cons_zero, List.set_cons_succ]
      simp only [cond_true, cond_false]
      refine inv_op ho (by kernel_rfl) (fun K hK => ?_)
      clear ho
      go_simp
      refine hK.out _ _ ?_
      unfold CoversI
      refine ⟨gg0, gg1, gg2, gg3, gg4, gg5, gg6, gg7, gg8, gg9, gg10, gg11, gg12, gg13, gg14, gg15, gg16, true, true, gg19, gg20, gg21, x19, rfl, by simp only [Act.put, List.setIfInBounds_toArray, List.set_cons_zero, List.set_cons_succ, cond_true, cond_false, Bool.cond_self], ?_, ?_, ?_, ?_⟩
      · exact fb0
      · exact fB
      · exact fL
      · exact f19
    · have ge19 : gg19 = false := hi2
      have ge18 : gg18 = true := inv_dep ho hall 18 (by kernel_rfl)
      clear hall hi1 hi2
      subst ge19 ge18
      have ho2 := ho
      simp only [List.getElem?_toArray, List.getElem?_cons_zero, List.getElem?_cons_succ] at ho2
      have ho3 := Option.some.inj ho2; clear ho2; subst ho3
      obtain ⟨ba0, bb0⟩ := fb0.read; have bl0 := fb0.lt
      simp only [Act.put, List.setIfInBounds_toArray, List.set_cons_zero, List.set_cons_succ]
      simp only [cond_true, cond_false]
      refine inv_op ho (by kernel_rfl) (fun K hK => ?_)
      clear ho
      go_simp
      refine hK.out _ _ ?_
      unfold CoversI
      refine ⟨gg0, gg1, gg2, gg3, gg4, gg5, gg6, gg7, gg8, gg9, gg10, gg11, gg12, gg13, gg14, gg15, gg16, gg17, true, true, gg20, gg21, w9.heap.size, rfl, by simp only [Act.put, List.setIfInBounds_toArray, List.set_cons_zero, List.set_cons_succ, cond_true, cond_false, Bool.cond_self], ?_, ?_, ?_, ?_⟩
      · exact fb0.alloc
      · exact belowAlloc fB
      · simp only [World.size_alloc]; omega
      · intro _; exact ⟨Blk.new rfl, fL⟩
    · have ge20 : gg20 = false := hi2
      have ge6 : gg6 = true := inv_dep ho hall 6 (by kernel_rfl)
      have ge16 : gg16 = true := inv_dep ho hall 16 (by kernel_rfl)
      have ge19 : gg19 = true := inv_dep ho hall 19 (by kernel_rfl)
      clear hall hi1 hi2
      subst ge20 ge6 ge16 ge19
      have ho2 := ho
      simp only [List.getElem?_toArray, List.getElem?_cons_zero, List.getElem?_cons_succ] at ho2
      have ho3 := Option.some.inj ho2; clear ho2; subst ho3
      obtain ⟨p19, q19⟩ := f19 rfl
      obtain ⟨ra19, rb19⟩ := p19.read
      have rl19 := p19.lt
      obtain ⟨ba0, bb0⟩ := fb0.read; have bl0 := fb0.lt
      simp only [Act.put, List.setIfInBounds_toArray, List.set_cons_zero, List.set_cons_succ]
      simp only [cond_true, cond_false]
      refine inv_op ho (by kernel_rfl) (fun K hK => ?_)
      clear ho
      go_simp
      go_at_call 58; (with_reducible refine (HW.out _ _ (by rw [ra19]; simp)).mono ?_); rintro e w8 ⟨rfl, hb⟩
      refine hK.out _ _ ?_
      unfold CoversI
      refine ⟨gg0, gg1, gg2, gg3, gg4, gg5, true, gg7, gg8, gg9, gg10, gg11, gg12, gg13, gg14, gg15, true, gg17, gg18, true, true, gg21, x19, rfl, by simp only [Act.put, List.setIfInBounds_toArray, List.set_cons_zero, List.set_cons_succ, cond_true, cond_false, Bool.cond_self], ?_, ?_, ?_, ?_⟩
      · exact Blk.later hb fb0
      · exact belowThru fB hb
      · have := hb.size; omega
      · intro h; obtain ⟨p, q⟩ := f19 h; exact ⟨Blk.later hb p, q⟩
    · have ge21 : gg21 = false := hi2
      have ge20 : gg20 = true := inv_dep ho hall 20 (by kernel_rfl)
      clear hall hi1 hi2
      subst ge21 ge20
      have ho2 := ho
      simp only [List.getElem?_toArray, List.getElem?_cons_zero, List.getElem?_cons_succ] at ho2
      have ho3 := Option.some.inj ho2; clear ho2; subst ho3
      obtain ⟨ba0, bb0⟩ := fb0.read; have bl0 := fb0.lt
      simp only [Act.put, List.setIfInBounds_toArray, List.set_cons_zero, List.set_cons_succ]
      simp only [cond_true, cond_false]
      refine inv_op ho (by kernel_rfl) (fun K hK => ?_)
      clear ho
      go_simp
      refine hK.out _ _ ?_
      unfold CoversI
      refine ⟨gg0, gg1, gg2, gg3, gg4, gg5, gg6, gg7, gg8, gg9, gg10, gg11, gg12, gg13, gg14, gg15, gg16, gg17, gg18, gg19, true, true, x19, rfl, by simp only [Act.put, List.setIfInBounds_toArray, List.set_cons_zero, List.set_cons_succ, cond_true, cond_false, Bool.cond_self], ?_, ?_, ?_, ?_⟩
      · exact fb0
      · exact fB
      · exact fL
      · exact f19
    · exfalso; simp at hi1; omega
  case hfin =>
    intro a w9 hI
    obtain ⟨gg0, gg1, gg2, gg3, gg4, gg5, gg6, gg7, gg8, gg9, gg10, gg11, gg12, gg13, gg14, gg15, gg16, gg17, gg18, gg19, gg20, gg21, x19, hL, rfl, fb0, fB, fL, f19⟩ := hI
    have hL2 : #[true, true, true, true, true, true, true, true, true, true, true, true, true, true, true, true, true, true, true, true, true, true] = #[gg0, gg1, gg2, gg3, gg4, gg5, gg6, gg7, gg8, gg9, gg10, gg11, gg12, gg13, gg14, gg15, gg16, gg17, gg18, gg19, gg20, gg21] := hL
    cases hL2
    obtain ⟨p19, q19⟩ := f19 rfl
    clear f19
    simp only [Act.put, List.setIfInBounds_toArray, List.set_cons_zero, List.set_cons_succ]
    simp only [cond_true]
    go_wp2_with fail
    go_ret
    exact ⟨rfl, fB⟩

set_option maxHeartbeats 1000000 in
theorem covers_bad (a : Option Addr) (n c : Nat) (X D : Int) (w : World)
    (HK : Hid (∀ w, Calls Try.prog 76 #[.agg #[.int .i64 X, .int .i64 D]] w fun e w' => e = .returned (.int .i64 8) ∧ Below w.heap.size w w')) :
    Calls Try.prog 50 #[.slice a n c, .agg #[.int .i64 X, .int .i64 D]] w fun e w' => e = .returned (.bool false) ∧ Below w.heap.size w w' := by
  go_enter Try.func50, Try.ntmps50
  go_wp2_with (go_at_call 76; (with_reducible refine (HK.out _).mono ?_); rintro e w1 ⟨rfl, hb⟩; (first | ((with_reducible have k0 := Blk.later hb (Blk.new rfl)); skip; obtain ⟨a0, b0⟩ := k0.read; have zl := k0.lt) | ((try (have zk := k0.lt; (first | ((with_reducible refine Blk.keepG hb k0 (fun h => ?_) ?_); (focus ((repeat' (first | (with_reducible assumption) | ((with_reducible refine Blk.new ?_); first | rfl | (simp; done)) | (with_reducible refine Blk.later (by assumption) ?_) | (with_reducible refine Blk.alloc ?_) | (with_reducible refine Blk.drewN ?_) | (with_reducible refine Blk.drew ?_) | (with_reducible refine Blk.other ?_ (by first | omega | (simp; done) | (simp; omega))))); done)); clear k0; intro k0) | (with_reducible replace k0 := Blk.later hb (Blk.set (Blk.set k0))) | (with_reducible replace k0 := Blk.later hb (Blk.set k0))); clear a0 b0; obtain ⟨a0, b0⟩ := k0.read; have zl := k0.lt)))); clear HK)
  go_ret
  exact ⟨rfl, by (repeat' (first | (with_reducible exact Below.refl _ _) | (with_reducible assumption) | (with_reducible refine belowThru ?_ (by assumption)) | (with_reducible refine belowAlloc ?_) | (with_reducible refine Below.setCell ?_ (by first | omega | (simp; done) | (simp; omega)) _) | (with_reducible refine Below.drew ?_) | (with_reducible refine below_drewN ?_ _)))⟩
set_option maxHeartbeats 1000000 in
theorem covers_den (a : Option Addr) (n c : Nat) (X D : Int) (w : World) (hD : 1048576 < D)
    (HK : Hid (∀ w, Calls Try.prog 76 #[.agg #[.int .i64 X, .int .i64 D]] w fun e w' => e = .returned (.int .i64 0) ∧ Below w.heap.size w w')) :
    Calls Try.prog 50 #[.slice a n c, .agg #[.int .i64 X, .int .i64 D]] w fun e w' => e = .returned (.bool false) ∧ Below w.heap.size w w' := by
  go_enter Try.func50, Try.ntmps50
  go_wp2_with (go_at_call 76; (with_reducible refine (HK.out _).mono ?_); rintro e w1 ⟨rfl, hb⟩; (first | ((with_reducible have k0 := Blk.later hb (Blk.new rfl)); skip; obtain ⟨a0, b0⟩ := k0.read; have zl := k0.lt) | ((try (have zk := k0.lt; (first | ((with_reducible refine Blk.keepG hb k0 (fun h => ?_) ?_); (focus ((repeat' (first | (with_reducible assumption) | ((with_reducible refine Blk.new ?_); first | rfl | (simp; done)) | (with_reducible refine Blk.later (by assumption) ?_) | (with_reducible refine Blk.alloc ?_) | (with_reducible refine Blk.drewN ?_) | (with_reducible refine Blk.drew ?_) | (with_reducible refine Blk.other ?_ (by first | omega | (simp; done) | (simp; omega))))); done)); clear k0; intro k0) | (with_reducible replace k0 := Blk.later hb (Blk.set (Blk.set k0))) | (with_reducible replace k0 := Blk.later hb (Blk.set k0))); clear a0 b0; obtain ⟨a0, b0⟩ := k0.read; have zl := k0.lt)))); clear HK)
  go_ret
  exact ⟨rfl, by (repeat' (first | (with_reducible exact Below.refl _ _) | (with_reducible assumption) | (with_reducible refine belowThru ?_ (by assumption)) | (with_reducible refine belowAlloc ?_) | (with_reducible refine Below.setCell ?_ (by first | omega | (simp; done) | (simp; omega)) _) | (with_reducible refine Below.drew ?_) | (with_reducible refine below_drewN ?_ _)))⟩

/-- What holds of the region whichever operations have come up. -/
def CorrI (i m c bb oo : Nat) (X D P Q S T : Int) (w : World) (i17 i18 i19 i20 i21 i22 i23 i24 i25 i6 i7 : Value) (b9 : Act) (L9 : Array Bool) (a9 : Act) (w9 : World) : Prop :=
  ∃ (gg0 gg1 gg2 gg3 gg4 gg5 gg6 gg7 gg8 gg9 gg10 gg11 gg12 : Bool) (x9 x10 : Nat), L9 = #[gg0, gg1, gg2, gg3, gg4, gg5, gg6, gg7, gg8, gg9, gg10, gg11, gg12] ∧ a9 = (((((((((((b9).put (some 17) (cond gg0 (.slice (some ⟨bb, oo, none⟩) (m + 2) c) (i17))).put (some 18) (cond gg1 (.int .i64 (i : Int)) (i18))).put (some 19) (cond gg2 (.pointer (some ⟨bb, oo + i * 2, none⟩)) (i19))).put (some 20) (cond gg3 (.agg #[.int .i64 P, .int .i64 S]) (i20))).put (some 21) (cond gg4 (.slice (some ⟨bb, oo, none⟩) (m + 2) c) (i21))).put (some 22) (cond gg5 (.int .i64 (i : Int)) (i22))).put (some 23) (cond gg6 (.int .i64 ((i : Int) + 1)) (i23))).put (some 24) (cond gg7 (.pointer (some ⟨bb, oo + (i + 1) * 2, none⟩)) (i24))).put (some 25) (cond gg8 (.agg #[.int .i64 Q, .int .i64 T]) (i25))).put (some 6) (cond gg9 (.pointer (some ⟨x9, 0, none⟩)) (i6))).put (some 7) (cond gg10 (.pointer (some ⟨x10, 0, none⟩)) (i7)) ∧ Blk w9 w.heap.size #[.slice (some ⟨bb, oo, none⟩) (m + 2) c] 22 ∧ Blk w9 (w.heap.size + 1) #[.int .i64 X, .int .i64 D] 24 ∧ Blk w9 (w.heap.size + 1 + 1) #[.int .i64 0, .int .i64 0] 24 ∧ Below w.heap.size w w9 ∧ (w.heap.size + 1 + 1 + 1) ≤ w9.heap.size ∧ (gg9 = true → Blk w9 x9 (cond gg11 #[.int .i64 P, .int .i64 S] #[.int .i64 0, .int .i64 0]) 37 ∧ (w.heap.size + 1 + 1 + 1) ≤ x9) ∧ (gg10 = true → Blk w9 x10 (cond gg12 #[.int .i64 Q, .int .i64 T] #[.int .i64 0, .int .i64 0]) 37 ∧ (w.heap.size + 1 + 1 + 1) ≤ x10) ∧ (gg9 = true → gg10 = true → x9 ≠ x10) ∧ (gg11 = true → gg9 = true) ∧ (gg12 = true → gg10 = true)

set_option maxRecDepth 100000 in
set_option maxHeartbeats 4000000 in
set_option linter.unusedSimpArgs false in
theorem corrected_walk (i m c bb oo : Nat) (X D P Q S T M N E : Int) (w : World) (hi : i ≤ m) (hm : m ≤ 1000)
    (g1 : -8192 ≤ Q - P) (g2 : Q - P ≤ 8192) (g3 : -8192 ≤ T - S) (g4 : T - S ≤ 8192) (g5 : -4294967296 ≤ P * D) (g6 : P * D ≤ 4294967296) (g7 : -8589934592 ≤ X - P * D) (g8 : X - P * D ≤ 8589934592)
    (g9 : -33554432 ≤ S * (Q - P)) (g10 : S * (Q - P) ≤ 33554432) (g11 : -35184372088832 ≤ S * (Q - P) * D) (g12 : S * (Q - P) * D ≤ 35184372088832) (g13 : -70368744177664 ≤ (X - P * D) * (T - S)) (g14 : (X - P * D) * (T - S) ≤ 70368744177664) (g15 : -8589934592 ≤ (Q - P) * D) (g16 : (Q - P) * D ≤ 8589934592)
    (HC0 : Hid (w.cell? ⟨bb, oo + i * 2, none⟩ = some (.int .i64 P))) (HC1 : Hid (w.cell? ⟨bb, oo + i * 2 + 1, none⟩ = some (.int .i64 S))) (HC2 : Hid (w.cell? ⟨bb, oo + (i + 1) * 2, none⟩ = some (.int .i64 Q))) (HC3 : Hid (w.cell? ⟨bb, oo + (i + 1) * 2 + 1, none⟩ = some (.int .i64 T)))
    (HS : Hid (∀ w1 : World, Blk w1 w.heap.size #[.slice (some ⟨bb, oo, none⟩) (m + 2) c] 22 → Blk w1 (w.heap.size + 1) #[.int .i64 X, .int .i64 D] 24 → Below w.heap.size w w1 → Calls Try.prog 59 #[.int .i64 (m : Int), .func (.func 92) #[] #[.pointer (some ⟨w.heap.size + 1, 0, none⟩), .pointer (some ⟨w.heap.size, 0, none⟩)]] w1 fun e w' => e = .returned (.int .i64 (i : Int)) ∧ Below w1.heap.size w1 w'))
    (HM : Hid (∀ w, Calls Try.prog 83 #[.int .i64 (S * (Q - P) * D + (X - P * D) * (T - S)), .int .i64 ((Q - P) * D)] w fun e w' => e = .returned (.tuple #[.agg #[.int .i64 M, .int .i64 N], .int .i64 E]) ∧ Below w.heap.size w w')) :
    Calls Try.prog 51 #[.slice (some ⟨bb, oo, none⟩) (m + 2) c, .agg #[.int .i64 X, .int .i64 D]] w fun e w' => e = .returned (.agg #[.int .i64 M, .int .i64 N]) ∧ Below w.heap.size w w' := by
  have p0 : (0 : Int) ≤ (i : Int) := by omega
  have p1 : (i : Int) ≤ (m : Int) := by omega
  have p2 : (m : Int) ≤ 1000 := by omega
  have p3 : (0 : Int) ≤ (i : Int) + 1 := by omega
  have p4 : ((i : Int) + 1).toNat = i + 1 := by omega
  have p5 : (i : Int) < (m : Int) + 2 := by omega
  have p6 : (i : Int) + 1 < (m : Int) + 2 := by omega
  have hw0 : IntKind.i64.wrap ((i : Int) + 1) = (i : Int) + 1 := IntWalk.i64_in _ (by omega)
  go_enter Try.func51, Try.ntmps51
  go_upto_region 2 with (go_at_call 59; (with_reducible refine (HS.out _ (by (repeat' (first | (with_reducible assumption) | ((with_reducible refine Blk.new ?_); first | rfl | (simp; done)) | (with_reducible refine Blk.later (by assumption) ?_) | (with_reducible refine Blk.alloc ?_) | (with_reducible refine Blk.drewN ?_) | (with_reducible refine Blk.drew ?_) | (with_reducible refine Blk.other ?_ (by first | omega | (simp; done) | (simp; omega)))))) (by (repeat' (first | (with_reducible assumption) | ((with_reducible refine Blk.new ?_); first | rfl | (simp; done)) | (with_reducible refine Blk.later (by assumption) ?_) | (with_reducible refine Blk.alloc ?_) | (with_reducible refine Blk.drewN ?_) | (with_reducible refine Blk.drew ?_) | (with_reducible refine Blk.other ?_ (by first | omega | (simp; done) | (simp; omega)))))) (by (repeat' (first | (with_reducible exact Below.refl _ _) | (with_reducible assumption) | (with_reducible refine belowThru ?_ (by assumption)) | (with_reducible refine belowAlloc ?_) | (with_reducible refine Below.setCell ?_ (by first | omega | (simp; done) | (simp; omega)) _) | (with_reducible refine Below.drew ?_) | (with_reducible refine below_drewN ?_ _))))).mono ?_); rintro e w1 ⟨rfl, hb⟩; (first | ((with_reducible have k0 := Blk.later hb (Blk.alloc (Blk.alloc (Blk.new rfl)))); (with_reducible have k1 := Blk.later hb (Blk.alloc (Blk.new rfl))); (with_reducible have k2 := Blk.later hb (Blk.new rfl)); simp only [World.size_alloc] at k1 k2; obtain ⟨a0, b0⟩ := k0.read; have zl := k0.lt; obtain ⟨a1, b1⟩ := k1.read; have zl := k1.lt; obtain ⟨a2, b2⟩ := k2.read; have zl := k2.lt) | ((try (have zk := k0.lt; (first | ((with_reducible refine Blk.keepG hb k0 (fun h => ?_) ?_); (focus ((repeat' (first | (with_reducible assumption) | ((with_reducible refine Blk.new ?_); first | rfl | (simp; done)) | (with_reducible refine Blk.later (by assumption) ?_) | (with_reducible refine Blk.alloc ?_) | (with_reducible refine Blk.drewN ?_) | (with_reducible refine Blk.drew ?_) | (with_reducible refine Blk.other ?_ (by first | omega | (simp; done) | (simp; omega))))); done)); clear k0; intro k0) | (with_reducible replace k0 := Blk.later hb (Blk.set (Blk.set k0))) | (with_reducible replace k0 := Blk.later hb (Blk.set k0))); clear a0 b0; obtain ⟨a0, b0⟩ := k0.read; have zl := k0.lt)); (try (have zk := k1.lt; (first | ((with_reducible refine Blk.keepG hb k1 (fun h => ?_) ?_); (focus ((repeat' (first | (with_reducible assumption) | ((with_reducible refine Blk.new ?_); first | rfl | (simp; done)) | (with_reducible refine Blk.later (by assumption) ?_) | (with_reducible refine Blk.alloc ?_) | (with_reducible refine Blk.drewN ?_) | (with_reducible refine Blk.drew ?_) | (with_reducible refine Blk.other ?_ (by first | omega | (simp; done) | (simp; omega))))); done)); clear k1; intro k1) | (with_reducible replace k1 := Blk.later hb (Blk.set (Blk.set k1))) | (with_reducible replace k1 := Blk.later hb (Blk.set k1))); clear a1 b1; obtain ⟨a1, b1⟩ := k1.read; have zl := k1.lt)); (try (have zk := k2.lt; (first | ((with_reducible refine Blk.keepG hb k2 (fun h => ?_) ?_); (focus ((repeat' (first | (with_reducible assumption) | ((with_reducible refine Blk.new ?_); first | rfl | (simp; done)) | (with_reducible refine Blk.later (by assumption) ?_) | (with_reducible refine Blk.alloc ?_) | (with_reducible refine Blk.drewN ?_) | (with_reducible refine Blk.drew ?_) | (with_reducible refine Blk.other ?_ (by first | omega | (simp; done) | (simp; omega))))); done)); clear k2; intro k2) | (with_reducible replace k2 := Blk.later hb (Blk.set (Blk.set k2))) | (with_reducible replace k2 := Blk.later hb (Blk.set k2))); clear a2 b2; obtain ⟨a2, b2⟩ := k2.read; have zl := k2.lt)))); clear HS)
  refine wp_region_inv (CorrI i m c bb oo X D P Q S T w ?i17 ?i18 ?i19 ?i20 ?i21 ?i22 ?i23 ?i24 ?i25 ?i6 ?i7) (by kernel_rfl) (by kernel_rfl) ?hsz ?hst ?hstep ?hfin
  case hst =>
    unfold CorrI
    refine ⟨false, false, false, false, false, false, false, false, false, false, false, false, false, 0, 0, rfl, ?_, ?_, ?_, ?_, ?_, ?_, ?_, ?_, ?_, ?_, ?_⟩
    · first | (simp only [Act.put, List.setIfInBounds_toArray, List.set_cons_zero, List.set_cons_succ, cond_false]; done) | (simp only [Act.put, List.setIfInBounds_toArray, List.set_cons_zero, List.set_cons_succ, cond_false]; rfl)
    all_goals (first | (intro h; cases h; done) | ((repeat' (first | (with_reducible assumption) | ((with_reducible refine Blk.new ?_); first | rfl | (simp; done)) | (with_reducible refine Blk.later (by assumption) ?_) | (with_reducible refine Blk.alloc ?_) | (with_reducible refine Blk.drewN ?_) | (with_reducible refine Blk.drew ?_) | (with_reducible refine Blk.other ?_ (by first | omega | (simp; done) | (simp; omega))))); done) | ((repeat' (first | (with_reducible exact Below.refl _ _) | (with_reducible assumption) | (with_reducible refine belowThru ?_ (by assumption)) | (with_reducible refine belowAlloc ?_) | (with_reducible refine Below.setCell ?_ (by first | omega | (simp; done) | (simp; omega)) _) | (with_reducible refine Below.drew ?_) | (with_reducible refine below_drewN ?_ _))); done) | (simp only [cond_false]; (repeat' (first | (with_reducible assumption) | ((with_reducible refine Blk.new ?_); first | rfl | (simp; done)) | (with_reducible refine Blk.later (by assumption) ?_) | (with_reducible refine Blk.alloc ?_) | (with_reducible refine Blk.drewN ?_) | (with_reducible refine Blk.drew ?_) | (with_reducible refine Blk.other ?_ (by first | omega | (simp; done) | (simp; omega))))); done) | (simp only [World.size_drew]; omega) | (simp only [World.size_drew] at *; omega) | (simp; done) | (simp; omega))
  case hsz =>
    intro L a w9 h
    obtain ⟨gg0, gg1, gg2, gg3, gg4, gg5, gg6, gg7, gg8, gg9, gg10, gg11, gg12, x9, x10, rfl, -⟩ := h; rfl
  case hstep =>
    intro L a w9 hI i hi
    obtain ⟨gg0, gg1, gg2, gg3, gg4, gg5, gg6, gg7, gg8, gg9, gg10, gg11, gg12, x9, x10, rfl, rfl, fb0, fb1, fb2, fB, fL, f9, f10, d9_10, s9, s10⟩ := hI
    obtain ⟨hi1, hi2, o, ho, hall⟩ := inv_mem hi
    clear hi
    rcases i with _ | _ | _ | _ | _ | _ | _ | _ | _ | _ | _ | _ | _ | i
    · have ge0 : gg0 = false := hi2
      clear hall hi1 hi2
      subst ge0
      have ho2 := ho
      simp only [List.getElem?_toArray, List.getElem?_cons_zero, List.getElem?_cons_succ] at ho2
      have ho3 := Option.some.inj ho2; clear ho2; subst ho3
      obtain ⟨ba0, bb0⟩ := fb0.read; have bl0 := fb0.lt
      obtain ⟨ba1, bb1⟩ := fb1.read; have bl1 := fb1.lt
      obtain ⟨ba2, bb2⟩ := fb2.read; have bl2 := fb2.lt
      simp only [Act.put, List.setIfInBounds_toArray, List.set_cons_zero, List.set_cons_succ]
      simp only [cond_true, cond_false]
      refine inv_op ho (by kernel_rfl) (fun K hK => ?_)
      clear ho
      go_simp
      refine hK.out _ _ ?_
      unfold CorrI
      refine ⟨true, gg1, gg2, gg3, gg4, gg5, gg6, gg7, gg8, gg9, gg10, gg11, gg12, x9, x10, rfl, by simp only [Act.put, List.setIfInBounds_toArray, List.set_cons_zero, List.set_cons_succ, cond_true, cond_false, Bool.cond_self], ?_, ?_, ?_, ?_, ?_, ?_, ?_, ?_, ?_, ?_⟩
      · exact fb0
      · exact fb1
      · exact fb2
      · exact fB
      · exact fL
      · exact f9
      · exact f10
      · exact d9_10
      · exact s9
      · exact s10
    · have ge1 : gg1 = false := hi2
      clear hall hi1 hi2
      subst ge1
      have ho2 := ho
      simp only [List.getElem?_toArray, List.getElem?_cons_zero, List.getElem?_cons_succ] at ho2
      have ho3 := Option.some.inj ho2; clear ho2; subst ho3
      obtain ⟨ba0, bb0⟩ := fb0.read; have bl0 := fb0.lt
      obtain ⟨ba1, bb1⟩ := fb1.read; have bl1 := fb1.lt
      obtain ⟨ba2, bb2⟩ := fb2.read; have bl2 := fb2.lt
      simp only [Act.put, List.setIfInBounds_toArray, List.set_cons_zero, List.set_cons_succ]
      simp only [cond_true, cond_false]
      refine inv_op ho (by kernel_rfl) (fun K hK => ?_)
      clear ho
      go_simp
      refine hK.out _ _ ?_
      unfold CorrI
      refine ⟨gg0, true, gg2, gg3, gg4, gg5, gg6, gg7, gg8, gg9, gg10, gg11, gg12, x9, x10, rfl, by simp only [Act.put, List.setIfInBounds_toArray, List.set_cons_zero, List.set_cons_succ, cond_true, cond_false, Bool.cond_self], ?_, ?_, ?_, ?_, ?_, ?_, ?_, ?_, ?_, ?_⟩
      · exact fb0
      · exact fb1
      · exact fb2
      · exact fB
      · exact fL
      · exact f9
      · exact f10
      · exact d9_10
      · exact s9
      · exact s10
    · have ge2 : gg2 = false := hi2
      have ge0 : gg0 = true := inv_dep ho hall 0 (by kernel_rfl)
      have ge1 : gg1 = true := inv_dep ho hall 1 (by kernel_rfl)
      clear hall hi1 hi2
      subst ge2 ge0 ge1
      have ho2 := ho
      simp only [List.getElem?_toArray, List.getElem?_cons_zero, List.getElem?_cons_succ] at ho2
      have ho3 := Option.some.inj ho2; clear ho2; subst ho3
      obtain ⟨ba0, bb0⟩ := fb0.read; have bl0 := fb0.lt
      obtain ⟨ba1, bb1⟩ := fb1.read; have bl1 := fb1.lt
      obtain ⟨ba2, bb2⟩ := fb2.read; have bl2 := fb2.lt
      simp only [Act.put, List.setIfInBounds_toArray, List.set_cons_zero, List.set_cons_succ]
      simp only [cond_true, cond_false]
      refine inv_op ho (by kernel_rfl) (fun K hK => ?_)
      clear ho
      go_simp
      refine hK.out _ _ ?_
      unfold CorrI
      refine ⟨true, true, true, gg3, gg4, gg5, gg6, gg7, gg8, gg9, gg10, gg11, gg12, x9, x10, rfl, by simp only [Act.put, List.setIfInBounds_toArray, List.set_cons_zero, List.set_cons_succ, cond_true, cond_false, Bool.cond_self], ?_, ?_, ?_, ?_, ?_, ?_, ?_, ?_, ?_, ?_⟩
      · exact fb0
      · exact fb1
      · exact fb2
      · exact fB
      · exact fL
      · exact f9
      · exact f10
      · exact d9_10
      · exact s9
      · exact s10
    · have ge3 : gg3 = false := hi2
      have ge2 : gg2 = true := inv_dep ho hall 2 (by kernel_rfl)
      clear hall hi1 hi2
      subst ge3 ge2
      have ho2 := ho
      simp only [List.getElem?_toArray, List.getElem?_cons_zero, List.getElem?_cons_succ] at ho2
      have ho3 := Option.some.inj ho2; clear ho2; subst ho3
      obtain ⟨ba0, bb0⟩ := fb0.read; have bl0 := fb0.lt
      obtain ⟨ba1, bb1⟩ := fb1.read; have bl1 := fb1.lt
      obtain ⟨ba2, bb2⟩ := fb2.read; have bl2 := fb2.lt
      have ce := cell_later fB HC0.out
      have cf := cell_later fB HC1.out
      simp only [Act.put, List.setIfInBounds_toArray, List.set_cons_zero, List.set_cons_succ]
      simp only [cond_true, cond_false]
      refine inv_op ho (by kernel_rfl) (fun K hK => ?_)
      clear ho
      go_simp
      refine hK.out _ _ ?_
      unfold CorrI
      refine ⟨gg0, gg1, true, true, gg4, gg5, gg6, gg7, gg8, gg9, gg10, gg11, gg12, x9, x10, rfl, by simp only [Act.put, List.setIfInBounds_toArray, List.set_cons_zero, List.set_cons_succ, cond_true, cond_false, Bool.cond_self], ?_, ?_, ?_, ?_, ?_, ?_, ?_, ?_, ?_, ?_⟩
      · exact fb0
      · exact fb1
      · exact fb2
      · exact fB
      · exact fL
      · exact f9
      · exact f10
      · exact d9_10
      · exact s9
      · exact s10
    · have ge4 : gg4 = false := hi2
      clear hall hi1 hi2
      subst ge4
      have ho2 := ho
      simp only [List.getElem?_toArray, List.getElem?_cons_zero, List.getElem?_cons_succ] at ho2
      have ho3 := Option.some.inj ho2; clear ho2; subst ho3
      obtain ⟨ba0, bb0⟩ := fb0.read; have bl0 := fb0.lt
      obtain ⟨ba1, bb1⟩ := fb1.read; have bl1 := fb1.lt
      obtain ⟨ba2, bb2⟩ := fb2.read; have bl2 := fb2.lt
      simp only [Act.put, List.setIfInBounds_toArray, List.set_cons_zero, List.set_cons_succ]
      simp only [cond_true, cond_false]
      refine inv_op ho (by kernel_rfl) (fun K hK => ?_)
      clear ho
      go_simp
      refine hK.out _ _ ?_
      unfold CorrI
      refine ⟨gg0, gg1, gg2, gg3, true, gg5, gg6, gg7, gg8, gg9, gg10, gg11, gg12, x9, x10, rfl, by simp only [Act.put, List.setIfInBounds_toArray, List.set_cons_zero, List.set_cons_succ, cond_true, cond_false, Bool.cond_self], ?_, ?_, ?_, ?_, ?_, ?_, ?_, ?_, ?_, ?_⟩
      · exact fb0
      · exact fb1
      · exact fb2
      · exact fB
      · exact fL
      · exact f9
      · exact f10
      · exact d9_10
      · exact s9
      · exact s10
    · have ge5 : gg5 = false := hi2
      clear hall hi1 hi2
      subst ge5
      have ho2 := ho
      simp only [List.getElem?_toArray, List.getElem?_cons_zero, List.getElem?_cons_succ] at ho2
      have ho3 := Option.some.inj ho2; clear ho2; subst ho3
      obtain ⟨ba0, bb0⟩ := fb0.read; have bl0 := fb0.lt
      obtain ⟨ba1, bb1⟩ := fb1.read; have bl1 := fb1.lt
      obtain ⟨ba2, bb2⟩ := fb2.read; have bl2 := fb2.lt
      simp only [Act.put, List.setIfInBounds_toArray, List.set_cons_zero, List.set_cons_succ]
      simp only [cond_true, cond_false]
      refine inv_op ho (by kernel_rfl) (fun K hK => ?_)
      clear ho
      go_simp
      refine hK.out _ _ ?_
      unfold CorrI
      refine ⟨gg0, gg1, gg2, gg3, gg4, true, gg6, gg7, gg8, gg9, gg10, gg11, gg12, x9, x10, rfl, by simp only [Act.put, List.setIfInBounds_toArray, List.set_cons_zero, List.set_cons_succ, cond_true, cond_false, Bool.cond_self], ?_, ?_, ?_, ?_, ?_, ?_, ?_, ?_, ?_, ?_⟩
      · exact fb0
      · exact fb1
      · exact fb2
      · exact fB
      · exact fL
      · exact f9
      · exact f10
      · exact d9_10
      · exact s9
      · exact s10
    · have ge6 : gg6 = false := hi2
      have ge5 : gg5 = true := inv_dep ho hall 5 (by kernel_rfl)
      clear hall hi1 hi2
      subst ge6 ge5
      have ho2 := ho
      simp only [List.getElem?_toArray, List.getElem?_cons_zero, List.getElem?_cons_succ] at ho2
      have ho3 := Option.some.inj ho2; clear ho2; subst ho3
      obtain ⟨ba0, bb0⟩ := fb0.read; have bl0 := fb0.lt
      obtain ⟨ba1, bb1⟩ := fb1.read; have bl1 := fb1.lt
      obtain ⟨ba2, bb2⟩ := fb2.read; have bl2 := fb2.lt
      simp only [Act.put, List.setIfInBounds_toArray, List.set_cons_zero, List.set_cons_succ]
      simp only [cond_true, cond_false]
      refine inv_op ho (by kernel_rfl) (fun K hK => ?_)
      clear ho
      go_simp
      refine hK.out _ _ ?_
      unfold CorrI
      refine ⟨gg0, gg1, gg2, gg3, gg4, true, true, gg7, gg8, gg9, gg10, gg11, gg12, x9, x10, rfl, by simp only [Act.put, List.setIfInBounds_toArray, List.set_cons_zero, List.set_cons_succ, cond_true, cond_false, Bool.cond_self], ?_, ?_, ?_, ?_, ?_, ?_, ?_, ?_, ?_, ?_⟩
      · exact fb0
      · exact fb1
      · exact fb2
      · exact fB
      · exact fL
      · exact f9
      · exact f10
      · exact d9_10
      · exact s9
      · exact s10
    · have ge7 : gg7 = false := hi2
      have ge4 : gg4 = true := inv_dep ho hall 4 (by kernel_rfl)
      have ge6 : gg6 = true := inv_dep ho hall 6 (by kernel_rfl)
      clear hall hi1 hi2
      subst ge7 ge4 ge6
      have ho2 := ho
      simp only [List.getElem?_toArray, List.getElem?_cons_zero, List.getElem?_cons_succ] at ho2
      have ho3 := Option.some.inj ho2; clear ho2; subst ho3
      obtain ⟨ba0, bb0⟩ := fb0.read; have bl0 := fb0.lt
      obtain ⟨ba1, bb1⟩ := fb1.read; have bl1 := fb1.lt
      obtain ⟨ba2, bb2⟩ := fb2.read; have bl2 := fb2.lt
      simp only [Act.put, List.setIfInBounds_toArray, List.set_cons_zero, List.set_cons_succ]
      simp only [cond_true, cond_false]
      refine inv_op ho (by kernel_rfl) (fun K hK => ?_)
      clear ho
      go_simp
      refine hK.out _ _ ?_
      unfold CorrI
      refine ⟨gg0, gg1, gg2, gg3, true, gg5, true, true, gg8, gg9, gg10, gg11, gg12, x9, x10, rfl, by simp only [Act.put, List.setIfInBounds_toArray, List.set_cons_zero, List.set_cons_succ, cond_true, cond_false, Bool.cond_self], ?_, ?_, ?_, ?_, ?_, ?_, ?_, ?_, ?_, ?_⟩
      · exact fb0
      · exact fb1
      · exact fb2
      · exact fB
      · exact fL
      · exact f9
      · exact f10
      · exact d9_10
      · exact s9
      · exact s10
    · have ge8 : gg8 = false := hi2
      have ge7 : gg7 = true := inv_dep ho hall 7 (by kernel_rfl)
      clear hall hi1 hi2
      subst ge8 ge7
      have ho2 := ho
      simp only [List.getElem?_toArray, List.getElem?_cons_zero, List.getElem?_cons_succ] at ho2
      have ho3 := Option.some.inj ho2; clear ho2; subst ho3
      obtain ⟨ba0, bb0⟩ := fb0.read; have bl0 := fb0.lt
      obtain ⟨ba1, bb1⟩ := fb1.read; have bl1 := fb1.lt
      obtain ⟨ba2, bb2⟩ := fb2.read; have bl2 := fb2.lt
      have ce := cell_later fB HC2.out
      have cf := cell_later fB HC3.out
      simp only [Act.put, List.setIfInBounds_toArray, List.set_cons_zero, List.set_cons_succ]
      simp only [cond_true, cond_false]
      refine inv_op ho (by kernel_rfl) (fun K hK => ?_)
      clear ho
      go_simp
      refine hK.out _ _ ?_
      unfold CorrI
      refine ⟨gg0, gg1, gg2, gg3, gg4, gg5, gg6, true, true, gg9, gg10, gg11, gg12, x9, x10, rfl, by simp only [Act.put, List.setIfInBounds_toArray, List.set_cons_zero, List.set_cons_succ, cond_true, cond_false, Bool.cond_self], ?_, ?_, ?_, ?_, ?_, ?_, ?_, ?_, ?_, ?_⟩
      · exact fb0
      · exact fb1
      · exact fb2
      · exact fB
      · exact fL
      · exact f9
      · exact f10
      · exact d9_10
      · exact s9
      · exact s10
    · have ge9 : gg9 = false := hi2
      clear hall hi1 hi2
      subst ge9
      have ho2 := ho
      simp only [List.getElem?_toArray, List.getElem?_cons_zero, List.getElem?_cons_succ] at ho2
      have ho3 := Option.some.inj ho2; clear ho2; subst ho3
      obtain ⟨ba0, bb0⟩ := fb0.read; have bl0 := fb0.lt
      obtain ⟨ba1, bb1⟩ := fb1.read; have bl1 := fb1.lt
      obtain ⟨ba2, bb2⟩ := fb2.read; have bl2 := fb2.lt
      obtain rfl : gg11 = false := by cases gg11; rfl; exact Bool.noConfusion (s9 rfl)
      simp only [Act.put, List.setIfInBounds_toArray, List.set_cons_zero, List.set_cons_succ]
      simp only [cond_true, cond_false]
      refine inv_op ho (by kernel_rfl) (fun K hK => ?_)
      clear ho
      go_simp
      refine hK.out _ _ ?_
      unfold CorrI
      refine ⟨gg0, gg1, gg2, gg3, gg4, gg5, gg6, gg7, gg8, true, gg10, false, gg12, w9.heap.size, x10, rfl, by simp only [Act.put, List.setIfInBounds_toArray, List.set_cons_zero, List.set_cons_succ, cond_true, cond_false, Bool.cond_self], ?_, ?_, ?_, ?_, ?_, ?_, ?_, ?_, ?_, ?_⟩
      · exact fb0.alloc
      · exact fb1.alloc
      · exact fb2.alloc
      · exact belowAlloc fB
      · simp only [World.size_alloc]; omega
      · intro _; exact ⟨Blk.new rfl, fL⟩
      · intro h; obtain ⟨p, q⟩ := f10 h; exact ⟨p.alloc, q⟩
      · intro _ h; have := (f10 h).1.lt; omega
      · intro _; rfl
      · exact s10
    · have ge10 : gg10 = false := hi2
      clear hall hi1 hi2
      subst ge10
      have ho2 := ho
      simp only [List.getElem?_toArray, List.getElem?_cons_zero, List.getElem?_cons_succ] at ho2
      have ho3 := Option.some.inj ho2; clear ho2; subst ho3
      obtain ⟨ba0, bb0⟩ := fb0.read; have bl0 := fb0.lt
      obtain ⟨ba1, bb1⟩ := fb1.read; have bl1 := fb1.lt
      obtain ⟨ba2, bb2⟩ := fb2.read; have bl2 := fb2.lt
      obtain rfl : gg12 = false := by cases gg12; rfl; exact Bool.noConfusion (s10 rfl)
      simp only [Act.put, List.setIfInBounds_toArray, List.set_cons_zero, List.set_cons_succ]
      simp only [cond_true, cond_false]
      refine inv_op ho (by kernel_rfl) (fun K hK => ?_)
      clear ho
      go_simp
      refine hK.out _ _ ?_
      unfold CorrI
      refine ⟨gg0, gg1, gg2, gg3, gg4, gg5, gg6, gg7, gg8, gg9, true, gg11, false, x9, w9.heap.size, rfl, by simp only [Act.put, List.setIfInBounds_toArray, List.set_cons_zero, List.set_cons_succ, cond_true, cond_false, Bool.cond_self], ?_, ?_, ?_, ?_, ?_, ?_, ?_, ?_, ?_, ?_⟩
      · exact fb0.alloc
      · exact fb1.alloc
      · exact fb2.alloc
      · exact belowAlloc fB
      · simp only [World.size_alloc]; omega
      · intro h; obtain ⟨p, q⟩ := f9 h; exact ⟨p.alloc, q⟩
      · intro _; exact ⟨Blk.new rfl, fL⟩
      · intro h _; have := (f9 h).1.lt; omega
      · exact s9
      · intro _; rfl
    · have ge11 : gg11 = false := hi2
      have ge3 : gg3 = true := inv_dep ho hall 3 (by kernel_rfl)
      have ge9 : gg9 = true := inv_dep ho hall 9 (by kernel_rfl)
      clear hall hi1 hi2
      subst ge11 ge3 ge9
      have ho2 := ho
      simp only [List.getElem?_toArray, List.getElem?_cons_zero, List.getElem?_cons_succ] at ho2
      have ho3 := Option.some.inj ho2; clear ho2; subst ho3
      obtain ⟨p9, q9⟩ := f9 rfl
      obtain ⟨ra9, rb9⟩ := p9.read
      have rl9 := p9.lt
      obtain ⟨ba0, bb0⟩ := fb0.read; have bl0 := fb0.lt
      obtain ⟨ba1, bb1⟩ := fb1.read; have bl1 := fb1.lt
      obtain ⟨ba2, bb2⟩ := fb2.read; have bl2 := fb2.lt
      have rl9 := p9.lt
      skip
      simp only [Act.put, List.setIfInBounds_toArray, List.set_cons_zero, List.set_cons_succ]
      simp only [cond_true, cond_false]
      refine inv_op ho (by kernel_rfl) (fun K hK => ?_)
      clear ho
      go_simp
      refine hK.out _ _ ?_
      unfold CorrI
      refine ⟨gg0, gg1, gg2, true, gg4, gg5, gg6, gg7, gg8, true, gg10, true, gg12, x9, x10, rfl, by simp only [Act.put, List.setIfInBounds_toArray, List.set_cons_zero, List.set_cons_succ, cond_true, cond_false, Bool.cond_self], ?_, ?_, ?_, ?_, ?_, ?_, ?_, ?_, ?_, ?_⟩
      · (repeat' (first | (with_reducible assumption) | ((with_reducible refine Blk.new ?_); first | rfl | (simp; done)) | (with_reducible refine Blk.later (by assumption) ?_) | (with_reducible refine Blk.alloc ?_) | (with_reducible refine Blk.drewN ?_) | (with_reducible refine Blk.drew ?_) | (with_reducible refine Blk.other ?_ (by first | omega | (simp; done) | (simp; omega)))))
      · (repeat' (first | (with_reducible assumption) | ((with_reducible refine Blk.new ?_); first | rfl | (simp; done)) | (with_reducible refine Blk.later (by assumption) ?_) | (with_reducible refine Blk.alloc ?_) | (with_reducible refine Blk.drewN ?_) | (with_reducible refine Blk.drew ?_) | (with_reducible refine Blk.other ?_ (by first | omega | (simp; done) | (simp; omega)))))
      · (repeat' (first | (with_reducible assumption) | ((with_reducible refine Blk.new ?_); first | rfl | (simp; done)) | (with_reducible refine Blk.later (by assumption) ?_) | (with_reducible refine Blk.alloc ?_) | (with_reducible refine Blk.drewN ?_) | (with_reducible refine Blk.drew ?_) | (with_reducible refine Blk.other ?_ (by first | omega | (simp; done) | (simp; omega)))))
      · (repeat' (first | (with_reducible exact Below.refl _ _) | (with_reducible assumption) | (with_reducible refine belowThru ?_ (by assumption)) | (with_reducible refine belowAlloc ?_) | (with_reducible refine Below.setCell ?_ (by first | omega | (simp; done) | (simp; omega)) _) | (with_reducible refine Below.drew ?_) | (with_reducible refine below_drewN ?_ _)))
      · first | exact fL | (simp; omega)
      · intro _; exact ⟨by exact Blk.set (Blk.set (p9)), q9⟩
      · intro h; obtain ⟨p, q⟩ := f10 h; have hne := d9_10 rfl h; exact ⟨by (repeat' (first | (with_reducible assumption) | ((with_reducible refine Blk.new ?_); first | rfl | (simp; done)) | (with_reducible refine Blk.later (by assumption) ?_) | (with_reducible refine Blk.alloc ?_) | (with_reducible refine Blk.drewN ?_) | (with_reducible refine Blk.drew ?_) | (with_reducible refine Blk.other ?_ (by first | omega | (simp; done) | (simp; omega))))), q⟩
      · exact d9_10
      · intro _; rfl
      · exact s10
    · have ge12 : gg12 = false := hi2
      have ge8 : gg8 = true := inv_dep ho hall 8 (by kernel_rfl)
      have ge10 : gg10 = true := inv_dep ho hall 10 (by kernel_rfl)
      clear hall hi1 hi2
      subst ge12 ge8 ge10
      have ho2 := ho
      simp only [List.getElem?_toArray, List.getElem?_cons_zero, List.getElem?_cons_succ] at ho2
      have ho3 := Option.some.inj ho2; clear ho2; subst ho3
      obtain ⟨p10, q10⟩ := f10 rfl
      obtain ⟨ra10, rb10⟩ := p10.read
      have rl10 := p10.lt
      obtain ⟨ba0, bb0⟩ := fb0.read; have bl0 := fb0.lt
      obtain ⟨ba1, bb1⟩ := fb1.read; have bl1 := fb1.lt
      obtain ⟨ba2, bb2⟩ := fb2.read; have bl2 := fb2.lt
      have rl10 := p10.lt
      skip
      simp only [Act.put, List.setIfInBounds_toArray, List.set_cons_zero, List.set_cons_succ]
      simp only [cond_true, cond_false]
      refine inv_op ho (by kernel_rfl) (fun K hK => ?_)
      clear ho
      go_simp
      refine hK.out _ _ ?_
      unfold CorrI
      refine ⟨gg0, gg1, gg2, gg3, gg4, gg5, gg6, gg7, true, gg9, true, gg11, true, x9, x10, rfl, by simp only [Act.put, List.setIfInBounds_toArray, List.set_cons_zero, List.set_cons_succ, cond_true, cond_false, Bool.cond_self], ?_, ?_, ?_, ?_, ?_, ?_, ?_, ?_, ?_, ?_⟩
      · (repeat' (first | (with_reducible assumption) | ((with_reducible refine Blk.new ?_); first | rfl | (simp; done)) | (with_reducible refine Blk.later (by assumption) ?_) | (with_reducible refine Blk.alloc ?_) | (with_reducible refine Blk.drewN ?_) | (with_reducible refine Blk.drew ?_) | (with_reducible refine Blk.other ?_ (by first | omega | (simp; done) | (simp; omega)))))
      · (repeat' (first | (with_reducible assumption) | ((with_reducible refine Blk.new ?_); first | rfl | (simp; done)) | (with_reducible refine Blk.later (by assumption) ?_) | (with_reducible refine Blk.alloc ?_) | (with_reducible refine Blk.drewN ?_) | (with_reducible refine Blk.drew ?_) | (with_reducible refine Blk.other ?_ (by first | omega | (simp; done) | (simp; omega)))))
      · (repeat' (first | (with_reducible assumption) | ((with_reducible refine Blk.new ?_); first | rfl | (simp; done)) | (with_reducible refine Blk.later (by assumption) ?_) | (with_reducible refine Blk.alloc ?_) | (with_reducible refine Blk.drewN ?_) | (with_reducible refine Blk.drew ?_) | (with_reducible refine Blk.other ?_ (by first | omega | (simp; done) | (simp; omega)))))
      · (repeat' (first | (with_reducible exact Below.refl _ _) | (with_reducible assumption) | (with_reducible refine belowThru ?_ (by assumption)) | (with_reducible refine belowAlloc ?_) | (with_reducible refine Below.setCell ?_ (by first | omega | (simp; done) | (simp; omega)) _) | (with_reducible refine Below.drew ?_) | (with_reducible refine below_drewN ?_ _)))
      · first | exact fL | (simp; omega)
      · intro h; obtain ⟨p, q⟩ := f9 h; have hne := d9_10 h rfl; exact ⟨by (repeat' (first | (with_reducible assumption) | ((with_reducible refine Blk.new ?_); first | rfl | (simp; done)) | (with_reducible refine Blk.later (by assumption) ?_) | (with_reducible refine Blk.alloc ?_) | (with_reducible refine Blk.drewN ?_) | (with_reducible refine Blk.drew ?_) | (with_reducible refine Blk.other ?_ (by first | omega | (simp; done) | (simp; omega))))), q⟩
      · intro _; exact ⟨by exact Blk.set (Blk.set (p10)), q10⟩
      · exact d9_10
      · exact s9
      · intro _; rfl
    · exfalso; simp at hi1; omega
  case hfin =>
    intro a w9 hI
    obtain ⟨gg0, gg1, gg2, gg3, gg4, gg5, gg6, gg7, gg8, gg9, gg10, gg11, gg12, x9, x10, hL, rfl, fb0, fb1, fb2, fB, fL, f9, f10, d9_10, s9, s10⟩ := hI
    have hL2 : #[true, true, true, true, true, true, true, true, true, true, true, true, true] = #[gg0, gg1, gg2, gg3, gg4, gg5, gg6, gg7, gg8, gg9, gg10, gg11, gg12] := hL
    cases hL2
    obtain ⟨p9, q9⟩ := f9 rfl
    obtain ⟨p10, q10⟩ := f10 rfl
    have n9_10 := d9_10 rfl rfl
    clear f9 f10 d9_10 s9 s10
    simp only [Act.put, List.setIfInBounds_toArray, List.set_cons_zero, List.set_cons_succ]
    simp only [cond_true]
    obtain ⟨ra, rb⟩ := p9.read; obtain ⟨rc, rd⟩ := p10.read; obtain ⟨re, rf⟩ := fb1.read; obtain ⟨rg, rh⟩ := fb2.read
    have lx9 := p9.lt; have lx10 := p10.lt; have lC := fb2.lt; have lB := fb1.lt
    go_wp2_with fail
    go_quiet (fail)
    go_wp2_with (go_at_call 83; (with_reducible refine (HM.out _).mono ?_); rintro e w8 ⟨rfl, hb⟩; have kC := Blk.later hb (Blk.drewN fb2); obtain ⟨rg, rh⟩ := kC.read; have lC8 := kC.lt; have fB8 : Below w.heap.size w w8 := belowThru (below_drewN fB _) hb)
    exact bodyPost_ret (v := .agg #[.int .i64 M, .int .i64 N]) (by simp only [results, Try.results51]; go_simp) rfl ⟨rfl, by (repeat' (first | (with_reducible exact Below.refl _ _) | (with_reducible assumption) | (with_reducible refine belowThru ?_ (by assumption)) | (with_reducible refine belowAlloc ?_) | (with_reducible refine Below.setCell ?_ (by first | omega | (simp; done) | (simp; omega)) _) | (with_reducible refine Below.drew ?_) | (with_reducible refine below_drewN ?_ _)))⟩

end Go.Proofs.Ytcafmmhjlecgpaa
