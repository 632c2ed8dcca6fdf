/-
  The texts that the laws of this seat share, merged: part 4.
-/
import Derived.BigQuiet
import Derived.Deep.CutBlock
import Derived.Deep.DeepCutAuto
import Derived.Deep.Draws
import Derived.Deep.LoopGhost
import Derived.Deep.QuietTactic
import Derived.Deep.RegionHeld3
import Derived.IntWalk
import Derived.Laws.AppendOwn
import Derived.Laws.Bits64b
import Derived.Lib.Hide
import Derived.Lib.ItoaNum
import Derived.LoopIn
import Derived.LoopNIn
import Derived.LoopTactic
import Derived.OneCell
import Derived.Orders
import Derived.OwnWalkIn
import Derived.RangeFuncBound
import Derived.RangeFuncCalls
import Derived.RangeFuncLeaves
import Derived.RangeFuncNested
import Derived.Shelf.Abstract
import Derived.Shelf.AbstractIn
import Derived.Shelf.Bits.Mul64
import Derived.Shelf.RegionOpen
import Derived.Shelf.Small.Bits
import Derived.Shelf.Spec.BitsCarry
import Derived.Shelf.Strconv.Itoa0
import Derived.TacticsInMore
import Derived.Test.YtbcgebobfnclnaaProg
import Derived.WalkKit
import Derived.WalkLawsBesides
import Derived.WalkSmall
import Derived.WalkSpells
import Derived.Test.YtbcgebobfnclnaaM1
import Derived.Test.YtbcgebobfnclnaaM2
import Derived.Test.YtbcgebobfnclnaaM3
/-
  Layer 1: the enclosure of what two enclosures share.
-/
namespace Go.Proofs.Ytbcgebobfnclnaa
open Go.RowKit

theorem Blk.set2 {w : World} {b : Nat} {x y u v : Value} {t : TypeId} (h : Blk w b #[x, y] t) : Blk ((w.setCell ⟨b, 0, none⟩ u).setCell ⟨b, 1, none⟩ v) b #[u, v] t := Blk.set (Blk.set h)

/-- What holds of the region whichever operations have come up. -/
def MeetI (l1 l2 h1 h2 m1 m2 n1 n2 L1 L2 H1 H2 c1 c2 e1 e2 : Int) (w : World) (b : Act) (L : Array Bool) (a : Act) (w9 : World) : Prop :=
  ∃ (gg0 gg1 gg2 gg3 gg4 gg5 gg6 gg7 gg8 gg9 gg10 gg11 gg12 gg13 gg14 gg15 gg16 gg17 : Bool) (x4 x11 x14 x15 : Nat), L = #[gg0, gg1, gg2, gg3, gg4, gg5, gg6, gg7, gg8, gg9, gg10, gg11, gg12, gg13, gg14, gg15, gg16, gg17] ∧ a = ((((((((((((((((b).put (some 17) (cond gg0 (.pointer (some ⟨w.heap.size, 0, none⟩)) undef)).put (some 18) (cond gg1 (.agg #[.int .i64 l1, .int .i64 l2]) undef)).put (some 19) (cond gg2 (.pointer (some ⟨(w.heap.size + 1), 0, none⟩)) undef)).put (some 20) (cond gg3 (.agg #[.int .i64 m1, .int .i64 m2]) undef)).put (some 21) (cond gg4 (.slice (some ⟨x4, 0, none⟩) 1 1) undef)).put (some 22) (cond gg5 (.agg #[.int .i64 c1, .int .i64 c2, .int .i64 L1, .int .i64 L2]) undef)).put (some 23) (cond gg6 (.agg #[.int .i64 L1, .int .i64 L2]) undef)).put (some 24) (cond gg7 (.pointer (some ⟨w.heap.size, 2, none⟩)) undef)).put (some 25) (cond gg8 (.agg #[.int .i64 h1, .int .i64 h2]) undef)).put (some 26) (cond gg9 (.pointer (some ⟨(w.heap.size + 1), 2, none⟩)) undef)).put (some 27) (cond gg10 (.agg #[.int .i64 n1, .int .i64 n2]) undef)).put (some 28) (cond gg11 (.slice (some ⟨x11, 0, none⟩) 1 1) undef)).put (some 29) (cond gg12 (.agg #[.int .i64 H1, .int .i64 H2, .int .i64 e1, .int .i64 e2]) undef)).put (some 30) (cond gg13 (.agg #[.int .i64 H1, .int .i64 H2]) undef)).put (some 7) (cond gg14 (.pointer (some ⟨x14, 0, none⟩)) undef)).put (some 8) (cond gg15 (.pointer (some ⟨x15, 0, none⟩)) undef) ∧ Blk w9 w.heap.size #[.int .i64 l1, .int .i64 l2, .int .i64 h1, .int .i64 h2] 30 ∧ Blk w9 (w.heap.size + 1) #[.int .i64 m1, .int .i64 m2, .int .i64 n1, .int .i64 n2] 30 ∧ Blk w9 (w.heap.size + 1 + 1) #[.int .i64 0, .int .i64 0, .int .i64 0, .int .i64 0] 30 ∧ Below w.heap.size w w9 ∧ (gg4 = true → Blk w9 x4 #[.int .i64 m1, .int .i64 m2] 23 ∧ (w.heap.size + 3) ≤ x4) ∧ (gg11 = true → Blk w9 x11 #[.int .i64 n1, .int .i64 n2] 23 ∧ (w.heap.size + 3) ≤ x11) ∧ (gg14 = true → Blk w9 x14 (cond gg16 #[.int .i64 L1, .int .i64 L2] #[.int .i64 0, .int .i64 0]) 23 ∧ (w.heap.size + 3) ≤ x14) ∧ (gg15 = true → Blk w9 x15 (cond gg17 #[.int .i64 H1, .int .i64 H2] #[.int .i64 0, .int .i64 0]) 23 ∧ (w.heap.size + 3) ≤ x15) ∧ (gg4 = true → gg14 = true → x4 ≠ x14) ∧ (gg4 = true → gg15 = true → x4 ≠ x15) ∧ (gg11 = true → gg14 = true → x11 ≠ x14) ∧ (gg11 = true → gg15 = true → x11 ≠ x15) ∧ (gg14 = true → gg15 = true → x14 ≠ x15) ∧ (gg16 = true → gg14 = true) ∧ (gg17 = true → gg15 = true)

set_option maxRecDepth 100000 in
set_option maxHeartbeats 8000000 in
set_option linter.unusedSimpArgs false in
theorem meet_walk (l1 l2 h1 h2 m1 m2 n1 n2 L1 L2 H1 H2 c1 c2 e1 e2 o A B C D E : Int) (w : World) (hd : (ckS2 l1 l2 h1 h2 m1 m2 n1 n2 != 0) = false)
    (HU : Hid (∀ B w, w.cell? ⟨B, 0, none⟩ = some (.int .i64 m1) → w.cell? ⟨B, 1, none⟩ = some (.int .i64 m2) → Calls Try.prog 103 #[.agg #[.int .i64 l1, .int .i64 l2], .slice (some ⟨B, 0, none⟩) 1 1] w fun e w' => e = .returned (.agg #[.int .i64 c1, .int .i64 c2, .int .i64 L1, .int .i64 L2]) ∧ Below w.heap.size w w'))
    (HV : Hid (∀ B w, w.cell? ⟨B, 0, none⟩ = some (.int .i64 n1) → w.cell? ⟨B, 1, none⟩ = some (.int .i64 n2) → Calls Try.prog 103 #[.agg #[.int .i64 h1, .int .i64 h2], .slice (some ⟨B, 0, none⟩) 1 1] w fun e w' => e = .returned (.agg #[.int .i64 H1, .int .i64 H2, .int .i64 e1, .int .i64 e2]) ∧ Below w.heap.size w w'))
    (HO : Hid (∀ w, Calls Try.prog 104 #[.agg #[.int .i64 L1, .int .i64 L2], .agg #[.int .i64 H1, .int .i64 H2]] w fun e w' => e = .returned (.int .i64 o) ∧ Below w.heap.size w w'))
    (hv : (0 < o ∧ A = 0 ∧ B = 0 ∧ C = 0 ∧ D = 0 ∧ E = 6) ∨ (¬ 0 < o ∧ A = L1 ∧ B = L2 ∧ C = H1 ∧ D = H2 ∧ E = 0)) :
    Calls Try.prog 60 #[.agg #[.int .i64 l1, .int .i64 l2, .int .i64 h1, .int .i64 h2], .agg #[.int .i64 m1, .int .i64 m2, .int .i64 n1, .int .i64 n2]] w fun e w' => e = .returned (.tuple #[.agg #[.int .i64 A, .int .i64 B, .int .i64 C, .int .i64 D], .int .i64 E]) ∧ Below w.heap.size w w' := by
  have i0 : ∀ w, (Instr.field 30 (.agg #[.int .i64 c1, .int .i64 c2, .int .i64 L1, .int .i64 L2]) 1).run Try.prog w = .ok (.agg #[.int .i64 L1, .int .i64 L2]) w := fun _ => by kernel_rfl
  have i1 : ∀ w, (Instr.field 30 (.agg #[.int .i64 H1, .int .i64 H2, .int .i64 e1, .int .i64 e2]) 0).run Try.prog w = .ok (.agg #[.int .i64 H1, .int .i64 H2]) w := fun _ => by kernel_rfl
  go_enter Try.func60, Try.ntmps60
  go_upto_region 4 with (first
    | (go_at_call 101; (with_reducible refine (checkSpans_2 l1 l2 h1 h2 m1 m2 n1 n2 _ _ (by simp [go_sem]) (by simp [go_sem]) (by simp [go_sem]) (by simp [go_sem]) (by simp [go_sem]) (by simp [go_sem]) (by simp [go_sem]) (by simp [go_sem])).mono ?_); rintro e w1 ⟨rfl, hb⟩; (first | ((with_reducible have k0 := Blk.later hb (Blk.alloc (Blk.alloc (Blk.alloc (Blk.new rfl))))); (with_reducible have k1 := Blk.later hb (Blk.alloc (Blk.alloc (Blk.new rfl)))); (with_reducible have k2 := Blk.later hb (Blk.alloc (Blk.new rfl))); (with_reducible have k3 := Blk.later hb (Blk.new rfl)); simp only [World.size_alloc] at k1 k2 k3; obtain ⟨a0, b0⟩ := k0.read; have zl := k0.lt; obtain ⟨a1, b1⟩ := k1.read; have zl := k1.lt; obtain ⟨a2, b2⟩ := k2.read; have zl := k2.lt; obtain ⟨a3, b3⟩ := k3.read; have zl := k3.lt) | ((try (have zk := k0.lt; (first | ((with_reducible refine Blk.keepG hb k0 (fun h => ?_) ?_); (focus ((repeat' (first | (with_reducible assumption) | ((with_reducible refine Blk.new ?_); first | rfl | (simp; done)) | (with_reducible refine Blk.later (by assumption) ?_) | (with_reducible refine Blk.alloc ?_) | (with_reducible refine Blk.drewN ?_) | (with_reducible refine Blk.drew ?_) | (with_reducible refine Blk.other ?_ (by first | omega | (simp; done) | (simp; omega))))); done)); clear k0; intro k0) | (with_reducible replace k0 := Blk.later hb (Blk.set (Blk.set k0))) | (with_reducible replace k0 := Blk.later hb (Blk.set k0))); clear a0 b0; obtain ⟨a0, b0⟩ := k0.read; have zl := k0.lt)); (try (have zk := k1.lt; (first | ((with_reducible refine Blk.keepG hb k1 (fun h => ?_) ?_); (focus ((repeat' (first | (with_reducible assumption) | ((with_reducible refine Blk.new ?_); first | rfl | (simp; done)) | (with_reducible refine Blk.later (by assumption) ?_) | (with_reducible refine Blk.alloc ?_) | (with_reducible refine Blk.drewN ?_) | (with_reducible refine Blk.drew ?_) | (with_reducible refine Blk.other ?_ (by first | omega | (simp; done) | (simp; omega))))); done)); clear k1; intro k1) | (with_reducible replace k1 := Blk.later hb (Blk.set (Blk.set k1))) | (with_reducible replace k1 := Blk.later hb (Blk.set k1))); clear a1 b1; obtain ⟨a1, b1⟩ := k1.read; have zl := k1.lt)); (try (have zk := k2.lt; (first | ((with_reducible refine Blk.keepG hb k2 (fun h => ?_) ?_); (focus ((repeat' (first | (with_reducible assumption) | ((with_reducible refine Blk.new ?_); first | rfl | (simp; done)) | (with_reducible refine Blk.later (by assumption) ?_) | (with_reducible refine Blk.alloc ?_) | (with_reducible refine Blk.drewN ?_) | (with_reducible refine Blk.drew ?_) | (with_reducible refine Blk.other ?_ (by first | omega | (simp; done) | (simp; omega))))); done)); clear k2; intro k2) | (with_reducible replace k2 := Blk.later hb (Blk.set (Blk.set k2))) | (with_reducible replace k2 := Blk.later hb (Blk.set k2))); clear a2 b2; obtain ⟨a2, b2⟩ := k2.read; have zl := k2.lt)); (try (have zk := k3.lt; (first | ((with_reducible refine Blk.keepG hb k3 (fun h => ?_) ?_); (focus ((repeat' (first | (with_reducible assumption) | ((with_reducible refine Blk.new ?_); first | rfl | (simp; done)) | (with_reducible refine Blk.later (by assumption) ?_) | (with_reducible refine Blk.alloc ?_) | (with_reducible refine Blk.drewN ?_) | (with_reducible refine Blk.drew ?_) | (with_reducible refine Blk.other ?_ (by first | omega | (simp; done) | (simp; omega))))); done)); clear k3; intro k3) | (with_reducible replace k3 := Blk.later hb (Blk.set (Blk.set k3))) | (with_reducible replace k3 := Blk.later hb (Blk.set k3))); clear a3 b3; obtain ⟨a3, b3⟩ := k3.read; have zl := k3.lt)); (try (have zk := k4.lt; (first | ((with_reducible refine Blk.keepG hb k4 (fun h => ?_) ?_); (focus ((repeat' (first | (with_reducible assumption) | ((with_reducible refine Blk.new ?_); first | rfl | (simp; done)) | (with_reducible refine Blk.later (by assumption) ?_) | (with_reducible refine Blk.alloc ?_) | (with_reducible refine Blk.drewN ?_) | (with_reducible refine Blk.drew ?_) | (with_reducible refine Blk.other ?_ (by first | omega | (simp; done) | (simp; omega))))); done)); clear k4; intro k4) | (with_reducible replace k4 := Blk.later hb (Blk.set (Blk.set k4))) | (with_reducible replace k4 := Blk.later hb (Blk.set k4))); clear a4 b4; obtain ⟨a4, b4⟩ := k4.read; have zl := k4.lt))))))
  go_cut [7, 8] (fun s7 s8 wx => At2 wx (w.heap.size + 3) #[.int .i64 L1, .int .i64 L2] #[.int .i64 H1, .int .i64 H2] 23 s7 s8 ∧ Blk wx (w.heap.size + 1 + 1) #[.int .i64 0, .int .i64 0, .int .i64 0, .int .i64 0] 30 ∧ Below w.heap.size w wx)
  case first =>
    clear k3 a3 b3 HO hv hd
    refine wp_region_inv (MeetI l1 l2 h1 h2 m1 m2 n1 n2 L1 L2 H1 H2 c1 c2 e1 e2 w) (by kernel_rfl) (by kernel_rfl) (fun L a w9 h => ?_) ?_ (fun L a w9 hI i hi => ?_) (fun a w9 hI => ?_)
    · obtain ⟨gg0, gg1, gg2, gg3, gg4, gg5, gg6, gg7, gg8, gg9, gg10, gg11, gg12, gg13, gg14, gg15, gg16, gg17, x4, x11, x14, x15, rfl, -⟩ := h; rfl
    · unfold MeetI
      refine ⟨false, false, false, false, false, false, false, false, false, false, false, false, false, false, false, false, false, false, 0, 0, 0, 0, rfl, by simp only [Act.put, List.setIfInBounds_toArray, List.set_cons_zero, List.set_cons_succ, cond_false], ?_, ?_, ?_, ?_, ?_, ?_, ?_, ?_, ?_, ?_, ?_, ?_, ?_, ?_, ?_⟩
      all_goals (first | (intro h; cases h; done) | ((repeat' (first | (with_reducible assumption) | ((with_reducible refine Blk.new ?_); first | rfl | (simp; done)) | (with_reducible refine Blk.later (by assumption) ?_) | (with_reducible refine Blk.alloc ?_) | (with_reducible refine Blk.drewN ?_) | (with_reducible refine Blk.drew ?_) | (with_reducible refine Blk.other ?_ (by first | omega | (simp; done) | (simp; omega))))); done) | ((repeat' (first | (with_reducible exact Below.refl _ _) | (with_reducible assumption) | (with_reducible refine belowThru ?_ (by assumption)) | (with_reducible refine belowAlloc ?_) | (with_reducible refine Below.setCell ?_ (by first | omega | (simp; done) | (simp; omega)) _) | (with_reducible refine Below.drew ?_) | (with_reducible refine below_drewN ?_ _))); done))
    · obtain ⟨gg0, gg1, gg2, gg3, gg4, gg5, gg6, gg7, gg8, gg9, gg10, gg11, gg12, gg13, gg14, gg15, gg16, gg17, x4, x11, x14, x15, rfl, rfl, fb0, fb1, fb2, fB, f4, f11, f14, f15, d4_14, d4_15, d11_14, d11_15, d14_15, s14, s15⟩ := hI
      obtain ⟨hi1, hi2, o, ho, hall⟩ := inv_mem hi
      clear hi
      rcases i with _ | _ | _ | _ | _ | _ | _ | _ | _ | _ | _ | _ | _ | _ | _ | _ | _ | _ | i
      · have ge0 : gg0 = false := hi2
        clear hall hi1 hi2
        subst ge0
        have ho2 := ho
        simp only [List.getElem?_toArray, List.getElem?_cons_zero, List.getElem?_cons_succ] at ho2
        have ho3 := Option.some.inj ho2; clear ho2; subst ho3
        obtain ⟨ba0, bb0⟩ := fb0.read; have bl0 := fb0.lt
        obtain ⟨ba1, bb1⟩ := fb1.read; have bl1 := fb1.lt
        obtain ⟨ba2, bb2⟩ := fb2.read; have bl2 := fb2.lt
        simp only [Act.put, List.setIfInBounds_toArray, List.set_cons_zero, List.set_cons_succ]
        simp only [cond_true, cond_false]
        refine inv_op ho (by kernel_rfl) (fun K hK => ?_)
        clear ho
        go_simp
        refine hK.out _ _ ?_
        unfold MeetI
        refine ⟨true, gg1, gg2, gg3, gg4, gg5, gg6, gg7, gg8, gg9, gg10, gg11, gg12, gg13, gg14, gg15, gg16, gg17, x4, x11, x14, x15, rfl, by simp only [Act.put, List.setIfInBounds_toArray, List.set_cons_zero, List.set_cons_succ, cond_true, cond_false], ?_, ?_, ?_, ?_, ?_, ?_, ?_, ?_, ?_, ?_, ?_, ?_, ?_, ?_, ?_⟩
        · (repeat' (first | (with_reducible assumption) | ((with_reducible refine Blk.new ?_); first | rfl | (simp; done)) | (with_reducible refine Blk.later (by assumption) ?_) | (with_reducible refine Blk.alloc ?_) | (with_reducible refine Blk.drewN ?_) | (with_reducible refine Blk.drew ?_) | (with_reducible refine Blk.other ?_ (by first | omega | (simp; done) | (simp; omega)))))
        · (repeat' (first | (with_reducible assumption) | ((with_reducible refine Blk.new ?_); first | rfl | (simp; done)) | (with_reducible refine Blk.later (by assumption) ?_) | (with_reducible refine Blk.alloc ?_) | (with_reducible refine Blk.drewN ?_) | (with_reducible refine Blk.drew ?_) | (with_reducible refine Blk.other ?_ (by first | omega | (simp; done) | (simp; omega)))))
        · (repeat' (first | (with_reducible assumption) | ((with_reducible refine Blk.new ?_); first | rfl | (simp; done)) | (with_reducible refine Blk.later (by assumption) ?_) | (with_reducible refine Blk.alloc ?_) | (with_reducible refine Blk.drewN ?_) | (with_reducible refine Blk.drew ?_) | (with_reducible refine Blk.other ?_ (by first | omega | (simp; done) | (simp; omega)))))
        · (repeat' (first | (with_reducible exact Below.refl _ _) | (with_reducible assumption) | (with_reducible refine belowThru ?_ (by assumption)) | (with_reducible refine belowAlloc ?_) | (with_reducible refine Below.setCell ?_ (by first | omega | (simp; done) | (simp; omega)) _) | (with_reducible refine Below.drew ?_) | (with_reducible refine below_drewN ?_ _)))
        · intro h; obtain ⟨p, q⟩ := f4 h; exact ⟨by (repeat' (first | (with_reducible assumption) | ((with_reducible refine Blk.new ?_); first | rfl | (simp; done)) | (with_reducible refine Blk.later (by assumption) ?_) | (with_reducible refine Blk.alloc ?_) | (with_reducible refine Blk.drewN ?_) | (with_reducible refine Blk.drew ?_) | (with_reducible refine Blk.other ?_ (by first | omega | (simp; done) | (simp; omega))))), q⟩
        · intro h; obtain ⟨p, q⟩ := f11 h; exact ⟨by (repeat' (first | (with_reducible assumption) | ((with_reducible refine Blk.new ?_); first | rfl | (simp; done)) | (with_reducible refine Blk.later (by assumption) ?_) | (with_reducible refine Blk.alloc ?_) | (with_reducible refine Blk.drewN ?_) | (with_reducible refine Blk.drew ?_) | (with_reducible refine Blk.other ?_ (by first | omega | (simp; done) | (simp; omega))))), q⟩
        · intro h; obtain ⟨p, q⟩ := f14 h; exact ⟨by (repeat' (first | (with_reducible assumption) | ((with_reducible refine Blk.new ?_); first | rfl | (simp; done)) | (with_reducible refine Blk.later (by assumption) ?_) | (with_reducible refine Blk.alloc ?_) | (with_reducible refine Blk.drewN ?_) | (with_reducible refine Blk.drew ?_) | (with_reducible refine Blk.other ?_ (by first | omega | (simp; done) | (simp; omega))))), q⟩
        · intro h; obtain ⟨p, q⟩ := f15 h; exact ⟨by (repeat' (first | (with_reducible assumption) | ((with_reducible refine Blk.new ?_); first | rfl | (simp; done)) | (with_reducible refine Blk.later (by assumption) ?_) | (with_reducible refine Blk.alloc ?_) | (with_reducible refine Blk.drewN ?_) | (with_reducible refine Blk.drew ?_) | (with_reducible refine Blk.other ?_ (by first | omega | (simp; done) | (simp; omega))))), q⟩
        · exact d4_14
        · exact d4_15
        · exact d11_14
        · exact d11_15
        · exact d14_15
        · exact s14
        · exact s15
      · have ge1 : gg1 = false := hi2
        have ge0 : gg0 = true := by cases ho; simp [Region.binds] at hall; simp_all
        clear hall hi1 hi2
        subst ge1 ge0
        have ho2 := ho
        simp only [List.getElem?_toArray, List.getElem?_cons_zero, List.getElem?_cons_succ] at ho2
        have ho3 := Option.some.inj ho2; clear ho2; subst ho3
        obtain ⟨ba0, bb0⟩ := fb0.read; have bl0 := fb0.lt
        obtain ⟨ba1, bb1⟩ := fb1.read; have bl1 := fb1.lt
        obtain ⟨ba2, bb2⟩ := fb2.read; have bl2 := fb2.lt
        simp only [Act.put, List.setIfInBounds_toArray, List.set_cons_zero, List.set_cons_succ]
        simp only [cond_true, cond_false]
        refine inv_op ho (by kernel_rfl) (fun K hK => ?_)
        clear ho
        go_simp
        refine hK.out _ _ ?_
        unfold MeetI
        refine ⟨true, true, gg2, gg3, gg4, gg5, gg6, gg7, gg8, gg9, gg10, gg11, gg12, gg13, gg14, gg15, gg16, gg17, x4, x11, x14, x15, rfl, by simp only [Act.put, List.setIfInBounds_toArray, List.set_cons_zero, List.set_cons_succ, cond_true, cond_false], ?_, ?_, ?_, ?_, ?_, ?_, ?_, ?_, ?_, ?_, ?_, ?_, ?_, ?_, ?_⟩
        · (repeat' (first | (with_reducible assumption) | ((with_reducible refine Blk.new ?_); first | rfl | (simp; done)) | (with_reducible refine Blk.later (by assumption) ?_) | (with_reducible refine Blk.alloc ?_) | (with_reducible refine Blk.drewN ?_) | (with_reducible refine Blk.drew ?_) | (with_reducible refine Blk.other ?_ (by first | omega | (simp; done) | (simp; omega)))))
        · (repeat' (first | (with_reducible assumption) | ((with_reducible refine Blk.new ?_); first | rfl | (simp; done)) | (with_reducible refine Blk.later (by assumption) ?_) | (with_reducible refine Blk.alloc ?_) | (with_reducible refine Blk.drewN ?_) | (with_reducible refine Blk.drew ?_) | (with_reducible refine Blk.other ?_ (by first | omega | (simp; done) | (simp; omega)))))
        · (repeat' (first | (with_reducible assumption) | ((with_reducible refine Blk.new ?_); first | rfl | (simp; done)) | (with_reducible refine Blk.later (by assumption) ?_) | (with_reducible refine Blk.alloc ?_) | (with_reducible refine Blk.drewN ?_) | (with_reducible refine Blk.drew ?_) | (with_reducible refine Blk.other ?_ (by first | omega | (simp; done) | (simp; omega)))))
        · (repeat' (first | (with_reducible exact Below.refl _ _) | (with_reducible assumption) | (with_reducible refine belowThru ?_ (by assumption)) | (with_reducible refine belowAlloc ?_) | (with_reducible refine Below.setCell ?_ (by first | omega | (simp; done) | (simp; omega)) _) | (with_reducible refine Below.drew ?_) | (with_reducible refine below_drewN ?_ _)))
        · intro h; obtain ⟨p, q⟩ := f4 h; exact ⟨by (repeat' (first | (with_reducible assumption) | ((with_reducible refine Blk.new ?_); first | rfl | (simp; done)) | (with_reducible refine Blk.later (by assumption) ?_) | (with_reducible refine Blk.alloc ?_) | (with_reducible refine Blk.drewN ?_) | (with_reducible refine Blk.drew ?_) | (with_reducible refine Blk.other ?_ (by first | omega | (simp; done) | (simp; omega))))), q⟩
        · intro h; obtain ⟨p, q⟩ := f11 h; exact ⟨by (repeat' (first | (with_reducible assumption) | ((with_reducible refine Blk.new ?_); first | rfl | (simp; done)) | (with_reducible refine Blk.later (by assumption) ?_) | (with_reducible refine Blk.alloc ?_) | (with_reducible refine Blk.drewN ?_) | (with_reducible refine Blk.drew ?_) | (with_reducible refine Blk.other ?_ (by first | omega | (simp; done) | (simp; omega))))), q⟩
        · intro h; obtain ⟨p, q⟩ := f14 h; exact ⟨by (repeat' (first | (with_reducible assumption) | ((with_reducible refine Blk.new ?_); first | rfl | (simp; done)) | (with_reducible refine Blk.later (by assumption) ?_) | (with_reducible refine Blk.alloc ?_) | (with_reducible refine Blk.drewN ?_) | (with_reducible refine Blk.drew ?_) | (with_reducible refine Blk.other ?_ (by first | omega | (simp; done) | (simp; omega))))), q⟩
        · intro h; obtain ⟨p, q⟩ := f15 h; exact ⟨by (repeat' (first | (with_reducible assumption) | ((with_reducible refine Blk.new ?_); first | rfl | (simp; done)) | (with_reducible refine Blk.later (by assumption) ?_) | (with_reducible refine Blk.alloc ?_) | (with_reducible refine Blk.drewN ?_) | (with_reducible refine Blk.drew ?_) | (with_reducible refine Blk.other ?_ (by first | omega | (simp; done) | (simp; omega))))), q⟩
        · exact d4_14
        · exact d4_15
        · exact d11_14
        · exact d11_15
        · exact d14_15
        · exact s14
        · exact s15
      · have ge2 : gg2 = false := hi2
        clear hall hi1 hi2
        subst ge2
        have ho2 := ho
        simp only [List.getElem?_toArray, List.getElem?_cons_zero, List.getElem?_cons_succ] at ho2
        have ho3 := Option.some.inj ho2; clear ho2; subst ho3
        obtain ⟨ba0, bb0⟩ := fb0.read; have bl0 := fb0.lt
        obtain ⟨ba1, bb1⟩ := fb1.read; have bl1 := fb1.lt
        obtain ⟨ba2, bb2⟩ := fb2.read; have bl2 := fb2.lt
        simp only [Act.put, List.setIfInBounds_toArray, List.set_cons_zero, List.set_cons_succ]
        simp only [cond_true, cond_false]
        refine inv_op ho (by kernel_rfl) (fun K hK => ?_)
        clear ho
        go_simp
        refine hK.out _ _ ?_
        unfold MeetI
        refine ⟨gg0, gg1, true, gg3, gg4, gg5, gg6, gg7, gg8, gg9, gg10, gg11, gg12, gg13, gg14, gg15, gg16, gg17, x4, x11, x14, x15, rfl, by simp only [Act.put, List.setIfInBounds_toArray, List.set_cons_zero, List.set_cons_succ, cond_true, cond_false], ?_, ?_, ?_, ?_, ?_, ?_, ?_, ?_, ?_, ?_, ?_, ?_, ?_, ?_, ?_⟩
        · (repeat' (first | (with_reducible assumption) | ((with_reducible refine Blk.new ?_); first | rfl | (simp; done)) | (with_reducible refine Blk.later (by assumption) ?_) | (with_reducible refine Blk.alloc ?_) | (with_reducible refine Blk.drewN ?_) | (with_reducible refine Blk.drew ?_) | (with_reducible refine Blk.other ?_ (by first | omega | (simp; done) | (simp; omega)))))
        · (repeat' (first | (with_reducible assumption) | ((with_reducible refine Blk.new ?_); first | rfl | (simp; done)) | (with_reducible refine Blk.later (by assumption) ?_) | (with_reducible refine Blk.alloc ?_) | (with_reducible refine Blk.drewN ?_) | (with_reducible refine Blk.drew ?_) | (with_reducible refine Blk.other ?_ (by first | omega | (simp; done) | (simp; omega)))))
        · (repeat' (first | (with_reducible assumption) | ((with_reducible refine Blk.new ?_); first | rfl | (simp; done)) | (with_reducible refine Blk.later (by assumption) ?_) | (with_reducible refine Blk.alloc ?_) | (with_reducible refine Blk.drewN ?_) | (with_reducible refine Blk.drew ?_) | (with_reducible refine Blk.other ?_ (by first | omega | (simp; done) | (simp; omega)))))
        · (repeat' (first | (with_reducible exact Below.refl _ _) | (with_reducible assumption) | (with_reducible refine belowThru ?_ (by assumption)) | (with_reducible refine belowAlloc ?_) | (with_reducible refine Below.setCell ?_ (by first | omega | (simp; done) | (simp; omega)) _) | (with_reducible refine Below.drew ?_) | (with_reducible refine below_drewN ?_ _)))
        · intro h; obtain ⟨p, q⟩ := f4 h; exact ⟨by (repeat' (first | (with_reducible assumption) | ((with_reducible refine Blk.new ?_); first | rfl | (simp; done)) | (with_reducible refine Blk.later (by assumption) ?_) | (with_reducible refine Blk.alloc ?_) | (with_reducible refine Blk.drewN ?_) | (with_reducible refine Blk.drew ?_) | (with_reducible refine Blk.other ?_ (by first | omega | (simp; done) | (simp; omega))))), q⟩
        · intro h; obtain ⟨p, q⟩ := f11 h; exact ⟨by (repeat' (first | (with_reducible assumption) | ((with_reducible refine Blk.new ?_); first | rfl | (simp; done)) | (with_reducible refine Blk.later (by assumption) ?_) | (with_reducible refine Blk.alloc ?_) | (with_reducible refine Blk.drewN ?_) | (with_reducible refine Blk.drew ?_) | (with_reducible refine Blk.other ?_ (by first | omega | (simp; done) | (simp; omega))))), q⟩
        · intro h; obtain ⟨p, q⟩ := f14 h; exact ⟨by (repeat' (first | (with_reducible assumption) | ((with_reducible refine Blk.new ?_); first | rfl | (simp; done)) | (with_reducible refine Blk.later (by assumption) ?_) | (with_reducible refine Blk.alloc ?_) | (with_reducible refine Blk.drewN ?_) | (with_reducible refine Blk.drew ?_) | (with_reducible refine Blk.other ?_ (by first | omega | (simp; done) | (simp; omega))))), q⟩
        · intro h; obtain ⟨p, q⟩ := f15 h; exact ⟨by (repeat' (first | (with_reducible assumption) | ((with_reducible refine Blk.new ?_); first | rfl | (simp; done)) | (with_reducible refine Blk.later (by assumption) ?_) | (with_reducible refine Blk.alloc ?_) | (with_reducible refine Blk.drewN ?_) | (with_reducible refine Blk.drew ?_) | (with_reducible refine Blk.other ?_ (by first | omega | (simp; done) | (simp; omega))))), q⟩
        · exact d4_14
        · exact d4_15
        · exact d11_14
        · exact d11_15
        · exact d14_15
        · exact s14
        · exact s15
      · have ge3 : gg3 = false := hi2
        have ge2 : gg2 = true := by cases ho; simp [Region.binds] at hall; simp_all
        clear hall hi1 hi2
        subst ge3 ge2
        have ho2 := ho
        simp only [List.getElem?_toArray, List.getElem?_cons_zero, List.getElem?_cons_succ] at ho2
        have ho3 := Option.some.inj ho2; clear ho2; subst ho3
        obtain ⟨ba0, bb0⟩ := fb0.read; have bl0 := fb0.lt
        obtain ⟨ba1, bb1⟩ := fb1.read; have bl1 := fb1.lt
        obtain ⟨ba2, bb2⟩ := fb2.read; have bl2 := fb2.lt
        simp only [Act.put, List.setIfInBounds_toArray, List.set_cons_zero, List.set_cons_succ]
        simp only [cond_true, cond_false]
        refine inv_op ho (by kernel_rfl) (fun K hK => ?_)
        clear ho
        go_simp
        refine hK.out _ _ ?_
        unfold MeetI
        refine ⟨gg0, gg1, true, true, gg4, gg5, gg6, gg7, gg8, gg9, gg10, gg11, gg12, gg13, gg14, gg15, gg16, gg17, x4, x11, x14, x15, rfl, by simp only [Act.put, List.setIfInBounds_toArray, List.set_cons_zero, List.set_cons_succ, cond_true, cond_false], ?_, ?_, ?_, ?_, ?_, ?_, ?_, ?_, ?_, ?_, ?_, ?_, ?_, ?_, ?_⟩
        · (repeat' (first | (with_reducible assumption) | ((with_reducible refine Blk.new ?_); first | rfl | (simp; done)) | (with_reducible refine Blk.later (by assumption) ?_) | (with_reducible refine Blk.alloc ?_) | (with_reducible refine Blk.drewN ?_) | (with_reducible refine Blk.drew ?_) | (with_reducible refine Blk.other ?_ (by first | omega | (simp; done) | (simp; omega)))))
        · (repeat' (first | (with_reducible assumption) | ((with_reducible refine Blk.new ?_); first | rfl | (simp; done)) | (with_reducible refine Blk.later (by assumption) ?_) | (with_reducible refine Blk.alloc ?_) | (with_reducible refine Blk.drewN ?_) | (with_reducible refine Blk.drew ?_) | (with_reducible refine Blk.other ?_ (by first | omega | (simp; done) | (simp; omega)))))
        · (repeat' (first | (with_reducible assumption) | ((with_reducible refine Blk.new ?_); first | rfl | (simp; done)) | (with_reducible refine Blk.later (by assumption) ?_) | (with_reducible refine Blk.alloc ?_) | (with_reducible refine Blk.drewN ?_) | (with_reducible refine Blk.drew ?_) | (with_reducible refine Blk.other ?_ (by first | omega | (simp; done) | (simp; omega)))))
        · (repeat' (first | (with_reducible exact Below.refl _ _) | (with_reducible assumption) | (with_reducible refine belowThru ?_ (by assumption)) | (with_reducible refine belowAlloc ?_) | (with_reducible refine Below.setCell ?_ (by first | omega | (simp; done) | (simp; omega)) _) | (with_reducible refine Below.drew ?_) | (with_reducible refine below_drewN ?_ _)))
        · intro h; obtain ⟨p, q⟩ := f4 h; exact ⟨by (repeat' (first | (with_reducible assumption) | ((with_reducible refine Blk.new ?_); first | rfl | (simp; done)) | (with_reducible refine Blk.later (by assumption) ?_) | (with_reducible refine Blk.alloc ?_) | (with_reducible refine Blk.drewN ?_) | (with_reducible refine Blk.drew ?_) | (with_reducible refine Blk.other ?_ (by first | omega | (simp; done) | (simp; omega))))), q⟩
        · intro h; obtain ⟨p, q⟩ := f11 h; exact ⟨by (repeat' (first | (with_reducible assumption) | ((with_reducible refine Blk.new ?_); first | rfl | (simp; done)) | (with_reducible refine Blk.later (by assumption) ?_) | (with_reducible refine Blk.alloc ?_) | (with_reducible refine Blk.drewN ?_) | (with_reducible refine Blk.drew ?_) | (with_reducible refine Blk.other ?_ (by first | omega | (simp; done) | (simp; omega))))), q⟩
        · intro h; obtain ⟨p, q⟩ := f14 h; exact ⟨by (repeat' (first | (with_reducible assumption) | ((with_reducible refine Blk.new ?_); first | rfl | (simp; done)) | (with_reducible refine Blk.later (by assumption) ?_) | (with_reducible refine Blk.alloc ?_) | (with_reducible refine Blk.drewN ?_) | (with_reducible refine Blk.drew ?_) | (with_reducible refine Blk.other ?_ (by first | omega | (simp; done) | (simp; omega))))), q⟩
        · intro h; obtain ⟨p, q⟩ := f15 h; exact ⟨by (repeat' (first | (with_reducible assumption) | ((with_reducible refine Blk.new ?_); first | rfl | (simp; done)) | (with_reducible refine Blk.later (by assumption) ?_) | (with_reducible refine Blk.alloc ?_) | (with_reducible refine Blk.drewN ?_) | (with_reducible refine Blk.drew ?_) | (with_reducible refine Blk.other ?_ (by first | omega | (simp; done) | (simp; omega))))), q⟩
        · exact d4_14
        · exact d4_15
        · exact d11_14
        · exact d11_15
        · exact d14_15
        · exact s14
        · exact s15
      · have ge4 : gg4 = false := hi2
        have ge3 : gg3 = true := by cases ho; simp [Region.binds] at hall; simp_all
        clear hall hi1 hi2
        subst ge4 ge3
        have ho2 := ho
        simp only [List.getElem?_toArray, List.getElem?_cons_zero, List.getElem?_cons_succ] at ho2
        have ho3 := Option.some.inj ho2; clear ho2; subst ho3
        obtain ⟨ba0, bb0⟩ := fb0.read; have bl0 := fb0.lt
        obtain ⟨ba1, bb1⟩ := fb1.read; have bl1 := fb1.lt
        obtain ⟨ba2, bb2⟩ := fb2.read; have bl2 := fb2.lt
        simp only [Act.put, List.setIfInBounds_toArray, List.set_cons_zero, List.set_cons_succ]
        simp only [cond_true, cond_false]
        refine inv_op ho (by kernel_rfl) (fun K hK => ?_)
        clear ho
        go_simp
        refine hK.out _ _ ?_
        unfold MeetI
        refine ⟨gg0, gg1, gg2, true, true, gg5, gg6, gg7, gg8, gg9, gg10, gg11, gg12, gg13, gg14, gg15, gg16, gg17, w9.heap.size, x11, x14, x15, rfl, by simp only [Act.put, List.setIfInBounds_toArray, List.set_cons_zero, List.set_cons_succ, cond_true, cond_false], ?_, ?_, ?_, ?_, ?_, ?_, ?_, ?_, ?_, ?_, ?_, ?_, ?_, ?_, ?_⟩
        · (repeat' (first | (with_reducible assumption) | ((with_reducible refine Blk.new ?_); first | rfl | (simp; done)) | (with_reducible refine Blk.later (by assumption) ?_) | (with_reducible refine Blk.alloc ?_) | (with_reducible refine Blk.drewN ?_) | (with_reducible refine Blk.drew ?_) | (with_reducible refine Blk.other ?_ (by first | omega | (simp; done) | (simp; omega)))))
        · (repeat' (first | (with_reducible assumption) | ((with_reducible refine Blk.new ?_); first | rfl | (simp; done)) | (with_reducible refine Blk.later (by assumption) ?_) | (with_reducible refine Blk.alloc ?_) | (with_reducible refine Blk.drewN ?_) | (with_reducible refine Blk.drew ?_) | (with_reducible refine Blk.other ?_ (by first | omega | (simp; done) | (simp; omega)))))
        · (repeat' (first | (with_reducible assumption) | ((with_reducible refine Blk.new ?_); first | rfl | (simp; done)) | (with_reducible refine Blk.later (by assumption) ?_) | (with_reducible refine Blk.alloc ?_) | (with_reducible refine Blk.drewN ?_) | (with_reducible refine Blk.drew ?_) | (with_reducible refine Blk.other ?_ (by first | omega | (simp; done) | (simp; omega)))))
        · (repeat' (first | (with_reducible exact Below.refl _ _) | (with_reducible assumption) | (with_reducible refine belowThru ?_ (by assumption)) | (with_reducible refine belowAlloc ?_) | (with_reducible refine Below.setCell ?_ (by first | omega | (simp; done) | (simp; omega)) _) | (with_reducible refine Below.drew ?_) | (with_reducible refine below_drewN ?_ _)))
        · intro _; exact ⟨Blk.new rfl, by have := fB.size; omega⟩
        · intro h; obtain ⟨p, q⟩ := f11 h; exact ⟨by (repeat' (first | (with_reducible assumption) | ((with_reducible refine Blk.new ?_); first | rfl | (simp; done)) | (with_reducible refine Blk.later (by assumption) ?_) | (with_reducible refine Blk.alloc ?_) | (with_reducible refine Blk.drewN ?_) | (with_reducible refine Blk.drew ?_) | (with_reducible refine Blk.other ?_ (by first | omega | (simp; done) | (simp; omega))))), q⟩
        · intro h; obtain ⟨p, q⟩ := f14 h; exact ⟨by (repeat' (first | (with_reducible assumption) | ((with_reducible refine Blk.new ?_); first | rfl | (simp; done)) | (with_reducible refine Blk.later (by assumption) ?_) | (with_reducible refine Blk.alloc ?_) | (with_reducible refine Blk.drewN ?_) | (with_reducible refine Blk.drew ?_) | (with_reducible refine Blk.other ?_ (by first | omega | (simp; done) | (simp; omega))))), q⟩
        · intro h; obtain ⟨p, q⟩ := f15 h; exact ⟨by (repeat' (first | (with_reducible assumption) | ((with_reducible refine Blk.new ?_); first | rfl | (simp; done)) | (with_reducible refine Blk.later (by assumption) ?_) | (with_reducible refine Blk.alloc ?_) | (with_reducible refine Blk.drewN ?_) | (with_reducible refine Blk.drew ?_) | (with_reducible refine Blk.other ?_ (by first | omega | (simp; done) | (simp; omega))))), q⟩
        · intro _ h; have := (f14 h).1.lt; omega
        · intro _ h; have := (f15 h).1.lt; omega
        · exact d11_14
        · exact d11_15
        · exact d14_15
        · exact s14
        · exact s15
      · have ge5 : gg5 = false := hi2
        have ge1 : gg1 = true := by cases ho; simp [Region.binds] at hall; simp_all
        have ge4 : gg4 = true := by cases ho; simp [Region.binds] at hall; simp_all
        clear hall hi1 hi2
        subst ge5 ge1 ge4
        have ho2 := ho
        simp only [List.getElem?_toArray, List.getElem?_cons_zero, List.getElem?_cons_succ] at ho2
        have ho3 := Option.some.inj ho2; clear ho2; subst ho3
        obtain ⟨p4, q4⟩ := f4 rfl
        obtain ⟨ra4, rb4⟩ := p4.read
        have rl4 := p4.lt
        obtain ⟨ba0, bb0⟩ := fb0.read; have bl0 := fb0.lt
        obtain ⟨ba1, bb1⟩ := fb1.read; have bl1 := fb1.lt
        obtain ⟨ba2, bb2⟩ := fb2.read; have bl2 := fb2.lt
        simp only [Act.put, List.setIfInBounds_toArray, List.set_cons_zero, List.set_cons_succ]
        simp only [cond_true, cond_false]
        refine inv_op ho (by kernel_rfl) (fun K hK => ?_)
        clear ho
        go_simp
        go_at_call 103; (with_reducible refine (HU.out _ _ (by simp [ra4]) (by simp [ra4])).mono ?_); rintro e w1 ⟨rfl, hb⟩
        refine hK.out _ _ ?_
        unfold MeetI
        refine ⟨gg0, true, gg2, gg3, true, true, gg6, gg7, gg8, gg9, gg10, gg11, gg12, gg13, gg14, gg15, gg16, gg17, x4, x11, x14, x15, rfl, by simp only [Act.put, List.setIfInBounds_toArray, List.set_cons_zero, List.set_cons_succ, cond_true, cond_false], ?_, ?_, ?_, ?_, ?_, ?_, ?_, ?_, ?_, ?_, ?_, ?_, ?_, ?_, ?_⟩
        · (repeat' (first | (with_reducible assumption) | ((with_reducible refine Blk.new ?_); first | rfl | (simp; done)) | (with_reducible refine Blk.later (by assumption) ?_) | (with_reducible refine Blk.alloc ?_) | (with_reducible refine Blk.drewN ?_) | (with_reducible refine Blk.drew ?_) | (with_reducible refine Blk.other ?_ (by first | omega | (simp; done) | (simp; omega)))))
        · (repeat' (first | (with_reducible assumption) | ((with_reducible refine Blk.new ?_); first | rfl | (simp; done)) | (with_reducible refine Blk.later (by assumption) ?_) | (with_reducible refine Blk.alloc ?_) | (with_reducible refine Blk.drewN ?_) | (with_reducible refine Blk.drew ?_) | (with_reducible refine Blk.other ?_ (by first | omega | (simp; done) | (simp; omega)))))
        · (repeat' (first | (with_reducible assumption) | ((with_reducible refine Blk.new ?_); first | rfl | (simp; done)) | (with_reducible refine Blk.later (by assumption) ?_) | (with_reducible refine Blk.alloc ?_) | (with_reducible refine Blk.drewN ?_) | (with_reducible refine Blk.drew ?_) | (with_reducible refine Blk.other ?_ (by first | omega | (simp; done) | (simp; omega)))))
        · (repeat' (first | (with_reducible exact Below.refl _ _) | (with_reducible assumption) | (with_reducible refine belowThru ?_ (by assumption)) | (with_reducible refine belowAlloc ?_) | (with_reducible refine Below.setCell ?_ (by first | omega | (simp; done) | (simp; omega)) _) | (with_reducible refine Below.drew ?_) | (with_reducible refine below_drewN ?_ _)))
        · intro h; obtain ⟨p, q⟩ := f4 h; exact ⟨by (repeat' (first | (with_reducible assumption) | ((with_reducible refine Blk.new ?_); first | rfl | (simp; done)) | (with_reducible refine Blk.later (by assumption) ?_) | (with_reducible refine Blk.alloc ?_) | (with_reducible refine Blk.drewN ?_) | (with_reducible refine Blk.drew ?_) | (with_reducible refine Blk.other ?_ (by first | omega | (simp; done) | (simp; omega))))), q⟩
        · intro h; obtain ⟨p, q⟩ := f11 h; exact ⟨by (repeat' (first | (with_reducible assumption) | ((with_reducible refine Blk.new ?_); first | rfl | (simp; done)) | (with_reducible refine Blk.later (by assumption) ?_) | (with_reducible refine Blk.alloc ?_) | (with_reducible refine Blk.drewN ?_) | (with_reducible refine Blk.drew ?_) | (with_reducible refine Blk.other ?_ (by first | omega | (simp; done) | (simp; omega))))), q⟩
        · intro h; obtain ⟨p, q⟩ := f14 h; exact ⟨by (repeat' (first | (with_reducible assumption) | ((with_reducible refine Blk.new ?_); first | rfl | (simp; done)) | (with_reducible refine Blk.later (by assumption) ?_) | (with_reducible refine Blk.alloc ?_) | (with_reducible refine Blk.drewN ?_) | (with_reducible refine Blk.drew ?_) | (with_reducible refine Blk.other ?_ (by first | omega | (simp; done) | (simp; omega))))), q⟩
        · intro h; obtain ⟨p, q⟩ := f15 h; exact ⟨by (repeat' (first | (with_reducible assumption) | ((with_reducible refine Blk.new ?_); first | rfl | (simp; done)) | (with_reducible refine Blk.later (by assumption) ?_) | (with_reducible refine Blk.alloc ?_) | (with_reducible refine Blk.drewN ?_) | (with_reducible refine Blk.drew ?_) | (with_reducible refine Blk.other ?_ (by first | omega | (simp; done) | (simp; omega))))), q⟩
        · exact d4_14
        · exact d4_15
        · exact d11_14
        · exact d11_15
        · exact d14_15
        · exact s14
        · exact s15
      · have ge6 : gg6 = false := hi2
        have ge5 : gg5 = true := by cases ho; simp [Region.binds] at hall; simp_all
        clear hall hi1 hi2
        subst ge6 ge5
        have ho2 := ho
        simp only [List.getElem?_toArray, List.getElem?_cons_zero, List.getElem?_cons_succ] at ho2
        have ho3 := Option.some.inj ho2; clear ho2; subst ho3
        obtain ⟨ba0, bb0⟩ := fb0.read; have bl0 := fb0.lt
        obtain ⟨ba1, bb1⟩ := fb1.read; have bl1 := fb1.lt
        obtain ⟨ba2, bb2⟩ := fb2.read; have bl2 := fb2.lt
        simp only [Act.put, List.setIfInBounds_toArray, List.set_cons_zero, List.set_cons_succ]
        simp only [cond_true, cond_false]
        refine inv_op ho (by kernel_rfl) (fun K hK => ?_)
        clear ho
        go_simp
        refine hK.out _ _ ?_
        unfold MeetI
        refine ⟨gg0, gg1, gg2, gg3, gg4, true, true, gg7, gg8, gg9, gg10, gg11, gg12, gg13, gg14, gg15, gg16, gg17, x4, x11, x14, x15, rfl, by simp only [Act.put, List.setIfInBounds_toArray, List.set_cons_zero, List.set_cons_succ, cond_true, cond_false], ?_, ?_, ?_, ?_, ?_, ?_, ?_, ?_, ?_, ?_, ?_, ?_, ?_, ?_, ?_⟩
        · (repeat' (first | (with_reducible assumption) | ((with_reducible refine Blk.new ?_); first | rfl | (simp; done)) | (with_reducible refine Blk.later (by assumption) ?_) | (with_reducible refine Blk.alloc ?_) | (with_reducible refine Blk.drewN ?_) | (with_reducible refine Blk.drew ?_) | (with_reducible refine Blk.other ?_ (by first | omega | (simp; done) | (simp; omega)))))
        · (repeat' (first | (with_reducible assumption) | ((with_reducible refine Blk.new ?_); first | rfl | (simp; done)) | (with_reducible refine Blk.later (by assumption) ?_) | (with_reducible refine Blk.alloc ?_) | (with_reducible refine Blk.drewN ?_) | (with_reducible refine Blk.drew ?_) | (with_reducible refine Blk.other ?_ (by first | omega | (simp; done) | (simp; omega)))))
        · (repeat' (first | (with_reducible assumption) | ((with_reducible refine Blk.new ?_); first | rfl | (simp; done)) | (with_reducible refine Blk.later (by assumption) ?_) | (with_reducible refine Blk.alloc ?_) | (with_reducible refine Blk.drewN ?_) | (with_reducible refine Blk.drew ?_) | (with_reducible refine Blk.other ?_ (by first | omega | (simp; done) | (simp; omega)))))
        · (repeat' (first | (with_reducible exact Below.refl _ _) | (with_reducible assumption) | (with_reducible refine belowThru ?_ (by assumption)) | (with_reducible refine belowAlloc ?_) | (with_reducible refine Below.setCell ?_ (by first | omega | (simp; done) | (simp; omega)) _) | (with_reducible refine Below.drew ?_) | (with_reducible refine below_drewN ?_ _)))
        · intro h; obtain ⟨p, q⟩ := f4 h; exact ⟨by (repeat' (first | (with_reducible assumption) | ((with_reducible refine Blk.new ?_); first | rfl | (simp; done)) | (with_reducible refine Blk.later (by assumption) ?_) | (with_reducible refine Blk.alloc ?_) | (with_reducible refine Blk.drewN ?_) | (with_reducible refine Blk.drew ?_) | (with_reducible refine Blk.other ?_ (by first | omega | (simp; done) | (simp; omega))))), q⟩
        · intro h; obtain ⟨p, q⟩ := f11 h; exact ⟨by (repeat' (first | (with_reducible assumption) | ((with_reducible refine Blk.new ?_); first | rfl | (simp; done)) | (with_reducible refine Blk.later (by assumption) ?_) | (with_reducible refine Blk.alloc ?_) | (with_reducible refine Blk.drewN ?_) | (with_reducible refine Blk.drew ?_) | (with_reducible refine Blk.other ?_ (by first | omega | (simp; done) | (simp; omega))))), q⟩
        · intro h; obtain ⟨p, q⟩ := f14 h; exact ⟨by (repeat' (first | (with_reducible assumption) | ((with_reducible refine Blk.new ?_); first | rfl | (simp; done)) | (with_reducible refine Blk.later (by assumption) ?_) | (with_reducible refine Blk.alloc ?_) | (with_reducible refine Blk.drewN ?_) | (with_reducible refine Blk.drew ?_) | (with_reducible refine Blk.other ?_ (by first | omega | (simp; done) | (simp; omega))))), q⟩
        · intro h; obtain ⟨p, q⟩ := f15 h; exact ⟨by (repeat' (first | (with_reducible assumption) | ((with_reducible refine Blk.new ?_); first | rfl | (simp; done)) | (with_reducible refine Blk.later (by assumption) ?_) | (with_reducible refine Blk.alloc ?_) | (with_reducible refine Blk.drewN ?_) | (with_reducible refine Blk.drew ?_) | (with_reducible refine Blk.other ?_ (by first | omega | (simp; done) | (simp; omega))))), q⟩
        · exact d4_14
        · exact d4_15
        · exact d11_14
        · exact d11_15
        · exact d14_15
        · exact s14
        · exact s15
      · have ge7 : gg7 = false := hi2
        clear hall hi1 hi2
        subst ge7
        have ho2 := ho
        simp only [List.getElem?_toArray, List.getElem?_cons_zero, List.getElem?_cons_succ] at ho2
        have ho3 := Option.some.inj ho2; clear ho2; subst ho3
        obtain ⟨ba0, bb0⟩ := fb0.read; have bl0 := fb0.lt
        obtain ⟨ba1, bb1⟩ := fb1.read; have bl1 := fb1.lt
        obtain ⟨ba2, bb2⟩ := fb2.read; have bl2 := fb2.lt
        simp only [Act.put, List.setIfInBounds_toArray, List.set_cons_zero, List.set_cons_succ]
        simp only [cond_true, cond_false]
        refine inv_op ho (by kernel_rfl) (fun K hK => ?_)
        clear ho
        go_simp
        refine hK.out _ _ ?_
        unfold MeetI
        refine ⟨gg0, gg1, gg2, gg3, gg4, gg5, gg6, true, gg8, gg9, gg10, gg11, gg12, gg13, gg14, gg15, gg16, gg17, x4, x11, x14, x15, rfl, by simp only [Act.put, List.setIfInBounds_toArray, List.set_cons_zero, List.set_cons_succ, cond_true, cond_false], ?_, ?_, ?_, ?_, ?_, ?_, ?_, ?_, ?_, ?_, ?_, ?_, ?_, ?_, ?_⟩
        · (repeat' (first | (with_reducible assumption) | ((with_reducible refine Blk.new ?_); first | rfl | (simp; done)) | (with_reducible refine Blk.later (by assumption) ?_) | (with_reducible refine Blk.alloc ?_) | (with_reducible refine Blk.drewN ?_) | (with_reducible refine Blk.drew ?_) | (with_reducible refine Blk.other ?_ (by first | omega | (simp; done) | (simp; omega)))))
        · (repeat' (first | (with_reducible assumption) | ((with_reducible refine Blk.new ?_); first | rfl | (simp; done)) | (with_reducible refine Blk.later (by assumption) ?_) | (with_reducible refine Blk.alloc ?_) | (with_reducible refine Blk.drewN ?_) | (with_reducible refine Blk.drew ?_) | (with_reducible refine Blk.other ?_ (by first | omega | (simp; done) | (simp; omega)))))
        · (repeat' (first | (with_reducible assumption) | ((with_reducible refine Blk.new ?_); first | rfl | (simp; done)) | (with_reducible refine Blk.later (by assumption) ?_) | (with_reducible refine Blk.alloc ?_) | (with_reducible refine Blk.drewN ?_) | (with_reducible refine Blk.drew ?_) | (with_reducible refine Blk.other ?_ (by first | omega | (simp; done) | (simp; omega)))))
        · (repeat' (first | (with_reducible exact Below.refl _ _) | (with_reducible assumption) | (with_reducible refine belowThru ?_ (by assumption)) | (with_reducible refine belowAlloc ?_) | (with_reducible refine Below.setCell ?_ (by first | omega | (simp; done) | (simp; omega)) _) | (with_reducible refine Below.drew ?_) | (with_reducible refine below_drewN ?_ _)))
        · intro h; obtain ⟨p, q⟩ := f4 h; exact ⟨by (repeat' (first | (with_reducible assumption) | ((with_reducible refine Blk.new ?_); first | rfl | (simp; done)) | (with_reducible refine Blk.later (by assumption) ?_) | (with_reducible refine Blk.alloc ?_) | (with_reducible refine Blk.drewN ?_) | (with_reducible refine Blk.drew ?_) | (with_reducible refine Blk.other ?_ (by first | omega | (simp; done) | (simp; omega))))), q⟩
        · intro h; obtain ⟨p, q⟩ := f11 h; exact ⟨by (repeat' (first | (with_reducible assumption) | ((with_reducible refine Blk.new ?_); first | rfl | (simp; done)) | (with_reducible refine Blk.later (by assumption) ?_) | (with_reducible refine Blk.alloc ?_) | (with_reducible refine Blk.drewN ?_) | (with_reducible refine Blk.drew ?_) | (with_reducible refine Blk.other ?_ (by first | omega | (simp; done) | (simp; omega))))), q⟩
        · intro h; obtain ⟨p, q⟩ := f14 h; exact ⟨by (repeat' (first | (with_reducible assumption) | ((with_reducible refine Blk.new ?_); first | rfl | (simp; done)) | (with_reducible refine Blk.later (by assumption) ?_) | (with_reducible refine Blk.alloc ?_) | (with_reducible refine Blk.drewN ?_) | (with_reducible refine Blk.drew ?_) | (with_reducible refine Blk.other ?_ (by first | omega | (simp; done) | (simp; omega))))), q⟩
        · intro h; obtain ⟨p, q⟩ := f15 h; exact ⟨by (repeat' (first | (with_reducible assumption) | ((with_reducible refine Blk.new ?_); first | rfl | (simp; done)) | (with_reducible refine Blk.later (by assumption) ?_) | (with_reducible refine Blk.alloc ?_) | (with_reducible refine Blk.drewN ?_) | (with_reducible refine Blk.drew ?_) | (with_reducible refine Blk.other ?_ (by first | omega | (simp; done) | (simp; omega))))), q⟩
        · exact d4_14
        · exact d4_15
        · exact d11_14
        · exact d11_15
        · exact d14_15
        · exact s14
        · exact s15
      · have ge8 : gg8 = false := hi2
        have ge7 : gg7 = true := by cases ho; simp [Region.binds] at hall; simp_all
        clear hall hi1 hi2
        subst ge8 ge7
        have ho2 := ho
        simp only [List.getElem?_toArray, List.getElem?_cons_zero, List.getElem?_cons_succ] at ho2
        have ho3 := Option.some.inj ho2; clear ho2; subst ho3
        obtain ⟨ba0, bb0⟩ := fb0.read; have bl0 := fb0.lt
        obtain ⟨ba1, bb1⟩ := fb1.read; have bl1 := fb1.lt
        obtain ⟨ba2, bb2⟩ := fb2.read; have bl2 := fb2.lt
        simp only [Act.put, List.setIfInBounds_toArray, List.set_cons_zero, List.set_cons_succ]
        simp only [cond_true, cond_false]
        refine inv_op ho (by kernel_rfl) (fun K hK => ?_)
        clear ho
        go_simp
        refine hK.out _ _ ?_
        unfold MeetI
        refine ⟨gg0, gg1, gg2, gg3, gg4, gg5, gg6, true, true, gg9, gg10, gg11, gg12, gg13, gg14, gg15, gg16, gg17, x4, x11, x14, x15, rfl, by simp only [Act.put, List.setIfInBounds_toArray, List.set_cons_zero, List.set_cons_succ, cond_true, cond_false], ?_, ?_, ?_, ?_, ?_, ?_, ?_, ?_, ?_, ?_, ?_, ?_, ?_, ?_, ?_⟩
        · (repeat' (first | (with_reducible assumption) | ((with_reducible refine Blk.new ?_); first | rfl | (simp; done)) | (with_reducible refine Blk.later (by assumption) ?_) | (with_reducible refine Blk.alloc ?_) | (with_reducible refine Blk.drewN ?_) | (with_reducible refine Blk.drew ?_) | (with_reducible refine Blk.other ?_ (by first | omega | (simp; done) | (simp; omega)))))
        · (repeat' (first | (with_reducible assumption) | ((with_reducible refine Blk.new ?_); first | rfl | (simp; done)) | (with_reducible refine Blk.later (by assumption) ?_) | (with_reducible refine Blk.alloc ?_) | (with_reducible refine Blk.drewN ?_) | (with_reducible refine Blk.drew ?_) | (with_reducible refine Blk.other ?_ (by first | omega | (simp; done) | (simp; omega)))))
        · (repeat' (first | (with_reducible assumption) | ((with_reducible refine Blk.new ?_); first | rfl | (simp; done)) | (with_reducible refine Blk.later (by assumption) ?_) | (with_reducible refine Blk.alloc ?_) | (with_reducible refine Blk.drewN ?_) | (with_reducible refine Blk.drew ?_) | (with_reducible refine Blk.other ?_ (by first | omega | (simp; done) | (simp; omega)))))
        · (repeat' (first | (with_reducible exact Below.refl _ _) | (with_reducible assumption) | (with_reducible refine belowThru ?_ (by assumption)) | (with_reducible refine belowAlloc ?_) | (with_reducible refine Below.setCell ?_ (by first | omega | (simp; done) | (simp; omega)) _) | (with_reducible refine Below.drew ?_) | (with_reducible refine below_drewN ?_ _)))
        · intro h; obtain ⟨p, q⟩ := f4 h; exact ⟨by (repeat' (first | (with_reducible assumption) | ((with_reducible refine Blk.new ?_); first | rfl | (simp; done)) | (with_reducible refine Blk.later (by assumption) ?_) | (with_reducible refine Blk.alloc ?_) | (with_reducible refine Blk.drewN ?_) | (with_reducible refine Blk.drew ?_) | (with_reducible refine Blk.other ?_ (by first | omega | (simp; done) | (simp; omega))))), q⟩
        · intro h; obtain ⟨p, q⟩ := f11 h; exact ⟨by (repeat' (first | (with_reducible assumption) | ((with_reducible refine Blk.new ?_); first | rfl | (simp; done)) | (with_reducible refine Blk.later (by assumption) ?_) | (with_reducible refine Blk.alloc ?_) | (with_reducible refine Blk.drewN ?_) | (with_reducible refine Blk.drew ?_) | (with_reducible refine Blk.other ?_ (by first | omega | (simp; done) | (simp; omega))))), q⟩
        · intro h; obtain ⟨p, q⟩ := f14 h; exact ⟨by (repeat' (first | (with_reducible assumption) | ((with_reducible refine Blk.new ?_); first | rfl | (simp; done)) | (with_reducible refine Blk.later (by assumption) ?_) | (with_reducible refine Blk.alloc ?_) | (with_reducible refine Blk.drewN ?_) | (with_reducible refine Blk.drew ?_) | (with_reducible refine Blk.other ?_ (by first | omega | (simp; done) | (simp; omega))))), q⟩
        · intro h; obtain ⟨p, q⟩ := f15 h; exact ⟨by (repeat' (first | (with_reducible assumption) | ((with_reducible refine Blk.new ?_); first | rfl | (simp; done)) | (with_reducible refine Blk.later (by assumption) ?_) | (with_reducible refine Blk.alloc ?_) | (with_reducible refine Blk.drewN ?_) | (with_reducible refine Blk.drew ?_) | (with_reducible refine Blk.other ?_ (by first | omega | (simp; done) | (simp; omega))))), q⟩
        · exact d4_14
        · exact d4_15
        · exact d11_14
        · exact d11_15
        · exact d14_15
        · exact s14
        · exact s15
      · have ge9 : gg9 = false := hi2
        clear hall hi1 hi2
        subst ge9
        have ho2 := ho
        simp only [List.getElem?_toArray, List.getElem?_cons_zero, List.getElem?_cons_succ] at ho2
        have ho3 := Option.some.inj ho2; clear ho2; subst ho3
        obtain ⟨ba0, bb0⟩ := fb0.read; have bl0 := fb0.lt
        obtain ⟨ba1, bb1⟩ := fb1.read; have bl1 := fb1.lt
        obtain ⟨ba2, bb2⟩ := fb2.read; have bl2 := fb2.lt
        simp only [Act.put, List.setIfInBounds_toArray, List.set_cons_zero, List.set_cons_succ]
        simp only [cond_true, cond_false]
        refine inv_op ho (by kernel_rfl) (fun K hK => ?_)
        clear ho
        go_simp
        refine hK.out _ _ ?_
        unfold MeetI
        refine ⟨gg0, gg1, gg2, gg3, gg4, gg5, gg6, gg7, gg8, true, gg10, gg11, gg12, gg13, gg14, gg15, gg16, gg17, x4, x11, x14, x15, rfl, by simp only [Act.put, List.setIfInBounds_toArray, List.set_cons_zero, List.set_cons_succ, cond_true, cond_false], ?_, ?_, ?_, ?_, ?_, ?_, ?_, ?_, ?_, ?_, ?_, ?_, ?_, ?_, ?_⟩
        · (repeat' (first | (with_reducible assumption) | ((with_reducible refine Blk.new ?_); first | rfl | (simp; done)) | (with_reducible refine Blk.later (by assumption) ?_) | (with_reducible refine Blk.alloc ?_) | (with_reducible refine Blk.drewN ?_) | (with_reducible refine Blk.drew ?_) | (with_reducible refine Blk.other ?_ (by first | omega | (simp; done) | (simp; omega)))))
        · (repeat' (first | (with_reducible assumption) | ((with_reducible refine Blk.new ?_); first | rfl | (simp; done)) | (with_reducible refine Blk.later (by assumption) ?_) | (with_reducible refine Blk.alloc ?_) | (with_reducible refine Blk.drewN ?_) | (with_reducible refine Blk.drew ?_) | (with_reducible refine Blk.other ?_ (by first | omega | (simp; done) | (simp; omega)))))
        · (repeat' (first | (with_reducible assumption) | ((with_reducible refine Blk.new ?_); first | rfl | (simp; done)) | (with_reducible refine Blk.later (by assumption) ?_) | (with_reducible refine Blk.alloc ?_) | (with_reducible refine Blk.drewN ?_) | (with_reducible refine Blk.drew ?_) | (with_reducible refine Blk.other ?_ (by first | omega | (simp; done) | (simp; omega)))))
        · (repeat' (first | (with_reducible exact Below.refl _ _) | (with_reducible assumption) | (with_reducible refine belowThru ?_ (by assumption)) | (with_reducible refine belowAlloc ?_) | (with_reducible refine Below.setCell ?_ (by first | omega | (simp; done) | (simp; omega)) _) | (with_reducible refine Below.drew ?_) | (with_reducible refine below_drewN ?_ _)))
        · intro h; obtain ⟨p, q⟩ := f4 h; exact ⟨by (repeat' (first | (with_reducible assumption) | ((with_reducible refine Blk.new ?_); first | rfl | (simp; done)) | (with_reducible refine Blk.later (by assumption) ?_) | (with_reducible refine Blk.alloc ?_) | (with_reducible refine Blk.drewN ?_) | (with_reducible refine Blk.drew ?_) | (with_reducible refine Blk.other ?_ (by first | omega | (simp; done) | (simp; omega))))), q⟩
        · intro h; obtain ⟨p, q⟩ := f11 h; exact ⟨by (repeat' (first | (with_reducible assumption) | ((with_reducible refine Blk.new ?_); first | rfl | (simp; done)) | (with_reducible refine Blk.later (by assumption) ?_) | (with_reducible refine Blk.alloc ?_) | (with_reducible refine Blk.drewN ?_) | (with_reducible refine Blk.drew ?_) | (with_reducible refine Blk.other ?_ (by first | omega | (simp; done) | (simp; omega))))), q⟩
        · intro h; obtain ⟨p, q⟩ := f14 h; exact ⟨by (repeat' (first | (with_reducible assumption) | ((with_reducible refine Blk.new ?_); first | rfl | (simp; done)) | (with_reducible refine Blk.later (by assumption) ?_) | (with_reducible refine Blk.alloc ?_) | (with_reducible refine Blk.drewN ?_) | (with_reducible refine Blk.drew ?_) | (with_reducible refine Blk.other ?_ (by first | omega | (simp; done) | (simp; omega))))), q⟩
        · intro h; obtain ⟨p, q⟩ := f15 h; exact ⟨by (repeat' (first | (with_reducible assumption) | ((with_reducible refine Blk.new ?_); first | rfl | (simp; done)) | (with_reducible refine Blk.later (by assumption) ?_) | (with_reducible refine Blk.alloc ?_) | (with_reducible refine Blk.drewN ?_) | (with_reducible refine Blk.drew ?_) | (with_reducible refine Blk.other ?_ (by first | omega | (simp; done) | (simp; omega))))), q⟩
        · exact d4_14
        · exact d4_15
        · exact d11_14
        · exact d11_15
        · exact d14_15
        · exact s14
        · exact s15
      · have ge10 : gg10 = false := hi2
        have ge9 : gg9 = true := by cases ho; simp [Region.binds] at hall; simp_all
        clear hall hi1 hi2
        subst ge10 ge9
        have ho2 := ho
        simp only [List.getElem?_toArray, List.getElem?_cons_zero, List.getElem?_cons_succ] at ho2
        have ho3 := Option.some.inj ho2; clear ho2; subst ho3
        obtain ⟨ba0, bb0⟩ := fb0.read; have bl0 := fb0.lt
        obtain ⟨ba1, bb1⟩ := fb1.read; have bl1 := fb1.lt
        obtain ⟨ba2, bb2⟩ := fb2.read; have bl2 := fb2.lt
        simp only [Act.put, List.setIfInBounds_toArray, List.set_cons_zero, List.set_cons_succ]
        simp only [cond_true, cond_false]
        refine inv_op ho (by kernel_rfl) (fun K hK => ?_)
        clear ho
        go_simp
        refine hK.out _ _ ?_
        unfold MeetI
        refine ⟨gg0, gg1, gg2, gg3, gg4, gg5, gg6, gg7, gg8, true, true, gg11, gg12, gg13, gg14, gg15, gg16, gg17, x4, x11, x14, x15, rfl, by simp only [Act.put, List.setIfInBounds_toArray, List.set_cons_zero, List.set_cons_succ, cond_true, cond_false], ?_, ?_, ?_, ?_, ?_, ?_, ?_, ?_, ?_, ?_, ?_, ?_, ?_, ?_, ?_⟩
        · (repeat' (first | (with_reducible assumption) | ((with_reducible refine Blk.new ?_); first | rfl | (simp; done)) | (with_reducible refine Blk.later (by assumption) ?_) | (with_reducible refine Blk.alloc ?_) | (with_reducible refine Blk.drewN ?_) | (with_reducible refine Blk.drew ?_) | (with_reducible refine Blk.other ?_ (by first | omega | (simp; done) | (simp; omega)))))
        · (repeat' (first | (with_reducible assumption) | ((with_reducible refine Blk.new ?_); first | rfl | (simp; done)) | (with_reducible refine Blk.later (by assumption) ?_) | (with_reducible refine Blk.alloc ?_) | (with_reducible refine Blk.drewN ?_) | (with_reducible refine Blk.drew ?_) | (with_reducible refine Blk.other ?_ (by first | omega | (simp; done) | (simp; omega)))))
        · (repeat' (first | (with_reducible assumption) | ((with_reducible refine Blk.new ?_); first | rfl | (simp; done)) | (with_reducible refine Blk.later (by assumption) ?_) | (with_reducible refine Blk.alloc ?_) | (with_reducible refine Blk.drewN ?_) | (with_reducible refine Blk.drew ?_) | (with_reducible refine Blk.other ?_ (by first | omega | (simp; done) | (simp; omega)))))
        · (repeat' (first | (with_reducible exact Below.refl _ _) | (with_reducible assumption) | (with_reducible refine belowThru ?_ (by assumption)) | (with_reducible refine belowAlloc ?_) | (with_reducible refine Below.setCell ?_ (by first | omega | (simp; done) | (simp; omega)) _) | (with_reducible refine Below.drew ?_) | (with_reducible refine below_drewN ?_ _)))
        · intro h; obtain ⟨p, q⟩ := f4 h; exact ⟨by (repeat' (first | (with_reducible assumption) | ((with_reducible refine Blk.new ?_); first | rfl | (simp; done)) | (with_reducible refine Blk.later (by assumption) ?_) | (with_reducible refine Blk.alloc ?_) | (with_reducible refine Blk.drewN ?_) | (with_reducible refine Blk.drew ?_) | (with_reducible refine Blk.other ?_ (by first | omega | (simp; done) | (simp; omega))))), q⟩
        · intro h; obtain ⟨p, q⟩ := f11 h; exact ⟨by (repeat' (first | (with_reducible assumption) | ((with_reducible refine Blk.new ?_); first | rfl | (simp; done)) | (with_reducible refine Blk.later (by assumption) ?_) | (with_reducible refine Blk.alloc ?_) | (with_reducible refine Blk.drewN ?_) | (with_reducible refine Blk.drew ?_) | (with_reducible refine Blk.other ?_ (by first | omega | (simp; done) | (simp; omega))))), q⟩
        · intro h; obtain ⟨p, q⟩ := f14 h; exact ⟨by (repeat' (first | (with_reducible assumption) | ((with_reducible refine Blk.new ?_); first | rfl | (simp; done)) | (with_reducible refine Blk.later (by assumption) ?_) | (with_reducible refine Blk.alloc ?_) | (with_reducible refine Blk.drewN ?_) | (with_reducible refine Blk.drew ?_) | (with_reducible refine Blk.other ?_ (by first | omega | (simp; done) | (simp; omega))))), q⟩
        · intro h; obtain ⟨p, q⟩ := f15 h; exact ⟨by (repeat' (first | (with_reducible assumption) | ((with_reducible refine Blk.new ?_); first | rfl | (simp; done)) | (with_reducible refine Blk.later (by assumption) ?_) | (with_reducible refine Blk.alloc ?_) | (with_reducible refine Blk.drewN ?_) | (with_reducible refine Blk.drew ?_) | (with_reducible refine Blk.other ?_ (by first | omega | (simp; done) | (simp; omega))))), q⟩
        · exact d4_14
        · exact d4_15
        · exact d11_14
        · exact d11_15
        · exact d14_15
        · exact s14
        · exact s15
      · have ge11 : gg11 = false := hi2
        have ge10 : gg10 = true := by cases ho; simp [Region.binds] at hall; simp_all
        clear hall hi1 hi2
        subst ge11 ge10
        have ho2 := ho
        simp only [List.getElem?_toArray, List.getElem?_cons_zero, List.getElem?_cons_succ] at ho2
        have ho3 := Option.some.inj ho2; clear ho2; subst ho3
        obtain ⟨ba0, bb0⟩ := fb0.read; have bl0 := fb0.lt
        obtain ⟨ba1, bb1⟩ := fb1.read; have bl1 := fb1.lt
        obtain ⟨ba2, bb2⟩ := fb2.read; have bl2 := fb2.lt
        simp only [Act.put, List.setIfInBounds_toArray, List.set_cons_zero, List.set_cons_succ]
        simp only [cond_true, cond_false]
        refine inv_op ho (by kernel_rfl) (fun K hK => ?_)
        clear ho
        go_simp
        refine hK.out _ _ ?_
        unfold MeetI
        refine ⟨gg0, gg1, gg2, gg3, gg4, gg5, gg6, gg7, gg8, gg9, true, true, gg12, gg13, gg14, gg15, gg16, gg17, x4, w9.heap.size, x14, x15, rfl, by simp only [Act.put, List.setIfInBounds_toArray, List.set_cons_zero, List.set_cons_succ, cond_true, cond_false], ?_, ?_, ?_, ?_, ?_, ?_, ?_, ?_, ?_, ?_, ?_, ?_, ?_, ?_, ?_⟩
        · (repeat' (first | (with_reducible assumption) | ((with_reducible refine Blk.new ?_); first | rfl | (simp; done)) | (with_reducible refine Blk.later (by assumption) ?_) | (with_reducible refine Blk.alloc ?_) | (with_reducible refine Blk.drewN ?_) | (with_reducible refine Blk.drew ?_) | (with_reducible refine Blk.other ?_ (by first | omega | (simp; done) | (simp; omega)))))
        · (repeat' (first | (with_reducible assumption) | ((with_reducible refine Blk.new ?_); first | rfl | (simp; done)) | (with_reducible refine Blk.later (by assumption) ?_) | (with_reducible refine Blk.alloc ?_) | (with_reducible refine Blk.drewN ?_) | (with_reducible refine Blk.drew ?_) | (with_reducible refine Blk.other ?_ (by first | omega | (simp; done) | (simp; omega)))))
        · (repeat' (first | (with_reducible assumption) | ((with_reducible refine Blk.new ?_); first | rfl | (simp; done)) | (with_reducible refine Blk.later (by assumption) ?_) | (with_reducible refine Blk.alloc ?_) | (with_reducible refine Blk.drewN ?_) | (with_reducible refine Blk.drew ?_) | (with_reducible refine Blk.other ?_ (by first | omega | (simp; done) | (simp; omega)))))
        · (repeat' (first | (with_reducible exact Below.refl _ _) | (with_reducible assumption) | (with_reducible refine belowThru ?_ (by assumption)) | (with_reducible refine belowAlloc ?_) | (with_reducible refine Below.setCell ?_ (by first | omega | (simp; done) | (simp; omega)) _) | (with_reducible refine Below.drew ?_) | (with_reducible refine below_drewN ?_ _)))
        · intro h; obtain ⟨p, q⟩ := f4 h; exact ⟨by (repeat' (first | (with_reducible assumption) | ((with_reducible refine Blk.new ?_); first | rfl | (simp; done)) | (with_reducible refine Blk.later (by assumption) ?_) | (with_reducible refine Blk.alloc ?_) | (with_reducible refine Blk.drewN ?_) | (with_reducible refine Blk.drew ?_) | (with_reducible refine Blk.other ?_ (by first | omega | (simp; done) | (simp; omega))))), q⟩
        · intro _; exact ⟨Blk.new rfl, by have := fB.size; omega⟩
        · intro h; obtain ⟨p, q⟩ := f14 h; exact ⟨by (repeat' (first | (with_reducible assumption) | ((with_reducible refine Blk.new ?_); first | rfl | (simp; done)) | (with_reducible refine Blk.later (by assumption) ?_) | (with_reducible refine Blk.alloc ?_) | (with_reducible refine Blk.drewN ?_) | (with_reducible refine Blk.drew ?_) | (with_reducible refine Blk.other ?_ (by first | omega | (simp; done) | (simp; omega))))), q⟩
        · intro h; obtain ⟨p, q⟩ := f15 h; exact ⟨by (repeat' (first | (with_reducible assumption) | ((with_reducible refine Blk.new ?_); first | rfl | (simp; done)) | (with_reducible refine Blk.later (by assumption) ?_) | (with_reducible refine Blk.alloc ?_) | (with_reducible refine Blk.drewN ?_) | (with_reducible refine Blk.drew ?_) | (with_reducible refine Blk.other ?_ (by first | omega | (simp; done) | (simp; omega))))), q⟩
        · exact d4_14
        · exact d4_15
        · intro _ h; have := (f14 h).1.lt; omega
        · intro _ h; have := (f15 h).1.lt; omega
        · exact d14_15
        · exact s14
        · exact s15
      · have ge12 : gg12 = false := hi2
        have ge8 : gg8 = true := by cases ho; simp [Region.binds] at hall; simp_all
        have ge11 : gg11 = true := by cases ho; simp [Region.binds] at hall; simp_all
        clear hall hi1 hi2
        subst ge12 ge8 ge11
        have ho2 := ho
        simp only [List.getElem?_toArray, List.getElem?_cons_zero, List.getElem?_cons_succ] at ho2
        have ho3 := Option.some.inj ho2; clear ho2; subst ho3
        obtain ⟨p11, q11⟩ := f11 rfl
        obtain ⟨ra11, rb11⟩ := p11.read
        have rl11 := p11.lt
        obtain ⟨ba0, bb0⟩ := fb0.read; have bl0 := fb0.lt
        obtain ⟨ba1, bb1⟩ := fb1.read; have bl1 := fb1.lt
        obtain ⟨ba2, bb2⟩ := fb2.read; have bl2 := fb2.lt
        simp only [Act.put, List.setIfInBounds_toArray, List.set_cons_zero, List.set_cons_succ]
        simp only [cond_true, cond_false]
        refine inv_op ho (by kernel_rfl) (fun K hK => ?_)
        clear ho
        go_simp
        go_at_call 103; (with_reducible refine (HV.out _ _ (by simp [ra11]) (by simp [ra11])).mono ?_); rintro e w1 ⟨rfl, hb⟩
        refine hK.out _ _ ?_
        unfold MeetI
        refine ⟨gg0, gg1, gg2, gg3, gg4, gg5, gg6, gg7, true, gg9, gg10, true, true, gg13, gg14, gg15, gg16, gg17, x4, x11, x14, x15, rfl, by simp only [Act.put, List.setIfInBounds_toArray, List.set_cons_zero, List.set_cons_succ, cond_true, cond_false], ?_, ?_, ?_, ?_, ?_, ?_, ?_, ?_, ?_, ?_, ?_, ?_, ?_, ?_, ?_⟩
        · (repeat' (first | (with_reducible assumption) | ((with_reducible refine Blk.new ?_); first | rfl | (simp; done)) | (with_reducible refine Blk.later (by assumption) ?_) | (with_reducible refine Blk.alloc ?_) | (with_reducible refine Blk.drewN ?_) | (with_reducible refine Blk.drew ?_) | (with_reducible refine Blk.other ?_ (by first | omega | (simp; done) | (simp; omega)))))
        · (repeat' (first | (with_reducible assumption) | ((with_reducible refine Blk.new ?_); first | rfl | (simp; done)) | (with_reducible refine Blk.later (by assumption) ?_) | (with_reducible refine Blk.alloc ?_) | (with_reducible refine Blk.drewN ?_) | (with_reducible refine Blk.drew ?_) | (with_reducible refine Blk.other ?_ (by first | omega | (simp; done) | (simp; omega)))))
        · (repeat' (first | (with_reducible assumption) | ((with_reducible refine Blk.new ?_); first | rfl | (simp; done)) | (with_reducible refine Blk.later (by assumption) ?_) | (with_reducible refine Blk.alloc ?_) | (with_reducible refine Blk.drewN ?_) | (with_reducible refine Blk.drew ?_) | (with_reducible refine Blk.other ?_ (by first | omega | (simp; done) | (simp; omega)))))
        · (repeat' (first | (with_reducible exact Below.refl _ _) | (with_reducible assumption) | (with_reducible refine belowThru ?_ (by assumption)) | (with_reducible refine belowAlloc ?_) | (with_reducible refine Below.setCell ?_ (by first | omega | (simp; done) | (simp; omega)) _) | (with_reducible refine Below.drew ?_) | (with_reducible refine below_drewN ?_ _)))
        · intro h; obtain ⟨p, q⟩ := f4 h; exact ⟨by (repeat' (first | (with_reducible assumption) | ((with_reducible refine Blk.new ?_); first | rfl | (simp; done)) | (with_reducible refine Blk.later (by assumption) ?_) | (with_reducible refine Blk.alloc ?_) | (with_reducible refine Blk.drewN ?_) | (with_reducible refine Blk.drew ?_) | (with_reducible refine Blk.other ?_ (by first | omega | (simp; done) | (simp; omega))))), q⟩
        · intro h; obtain ⟨p, q⟩ := f11 h; exact ⟨by (repeat' (first | (with_reducible assumption) | ((with_reducible refine Blk.new ?_); first | rfl | (simp; done)) | (with_reducible refine Blk.later (by assumption) ?_) | (with_reducible refine Blk.alloc ?_) | (with_reducible refine Blk.drewN ?_) | (with_reducible refine Blk.drew ?_) | (with_reducible refine Blk.other ?_ (by first | omega | (simp; done) | (simp; omega))))), q⟩
        · intro h; obtain ⟨p, q⟩ := f14 h; exact ⟨by (repeat' (first | (with_reducible assumption) | ((with_reducible refine Blk.new ?_); first | rfl | (simp; done)) | (with_reducible refine Blk.later (by assumption) ?_) | (with_reducible refine Blk.alloc ?_) | (with_reducible refine Blk.drewN ?_) | (with_reducible refine Blk.drew ?_) | (with_reducible refine Blk.other ?_ (by first | omega | (simp; done) | (simp; omega))))), q⟩
        · intro h; obtain ⟨p, q⟩ := f15 h; exact ⟨by (repeat' (first | (with_reducible assumption) | ((with_reducible refine Blk.new ?_); first | rfl | (simp; done)) | (with_reducible refine Blk.later (by assumption) ?_) | (with_reducible refine Blk.alloc ?_) | (with_reducible refine Blk.drewN ?_) | (with_reducible refine Blk.drew ?_) | (with_reducible refine Blk.other ?_ (by first | omega | (simp; done) | (simp; omega))))), q⟩
        · exact d4_14
        · exact d4_15
        · exact d11_14
        · exact d11_15
        · exact d14_15
        · exact s14
        · exact s15
      · have ge13 : gg13 = false := hi2
        have ge12 : gg12 = true := by cases ho; simp [Region.binds] at hall; simp_all
        clear hall hi1 hi2
        subst ge13 ge12
        have ho2 := ho
        simp only [List.getElem?_toArray, List.getElem?_cons_zero, List.getElem?_cons_succ] at ho2
        have ho3 := Option.some.inj ho2; clear ho2; subst ho3
        obtain ⟨ba0, bb0⟩ := fb0.read; have bl0 := fb0.lt
        obtain ⟨ba1, bb1⟩ := fb1.read; have bl1 := fb1.lt
        obtain ⟨ba2, bb2⟩ := fb2.read; have bl2 := fb2.lt
        simp only [Act.put, List.setIfInBounds_toArray, List.set_cons_zero, List.set_cons_succ]
        simp only [cond_true, cond_false]
        refine inv_op ho (by kernel_rfl) (fun K hK => ?_)
        clear ho
        go_simp
        refine hK.out _ _ ?_
        unfold MeetI
        refine ⟨gg0, gg1, gg2, gg3, gg4, gg5, gg6, gg7, gg8, gg9, gg10, gg11, true, true, gg14, gg15, gg16, gg17, x4, x11, x14, x15, rfl, by simp only [Act.put, List.setIfInBounds_toArray, List.set_cons_zero, List.set_cons_succ, cond_true, cond_false], ?_, ?_, ?_, ?_, ?_, ?_, ?_, ?_, ?_, ?_, ?_, ?_, ?_, ?_, ?_⟩
        · (repeat' (first | (with_reducible assumption) | ((with_reducible refine Blk.new ?_); first | rfl | (simp; done)) | (with_reducible refine Blk.later (by assumption) ?_) | (with_reducible refine Blk.alloc ?_) | (with_reducible refine Blk.drewN ?_) | (with_reducible refine Blk.drew ?_) | (with_reducible refine Blk.other ?_ (by first | omega | (simp; done) | (simp; omega)))))
        · (repeat' (first | (with_reducible assumption) | ((with_reducible refine Blk.new ?_); first | rfl | (simp; done)) | (with_reducible refine Blk.later (by assumption) ?_) | (with_reducible refine Blk.alloc ?_) | (with_reducible refine Blk.drewN ?_) | (with_reducible refine Blk.drew ?_) | (with_reducible refine Blk.other ?_ (by first | omega | (simp; done) | (simp; omega)))))
        · (repeat' (first | (with_reducible assumption) | ((with_reducible refine Blk.new ?_); first | rfl | (simp; done)) | (with_reducible refine Blk.later (by assumption) ?_) | (with_reducible refine Blk.alloc ?_) | (with_reducible refine Blk.drewN ?_) | (with_reducible refine Blk.drew ?_) | (with_reducible refine Blk.other ?_ (by first | omega | (simp; done) | (simp; omega)))))
        · (repeat' (first | (with_reducible exact Below.refl _ _) | (with_reducible assumption) | (with_reducible refine belowThru ?_ (by assumption)) | (with_reducible refine belowAlloc ?_) | (with_reducible refine Below.setCell ?_ (by first | omega | (simp; done) | (simp; omega)) _) | (with_reducible refine Below.drew ?_) | (with_reducible refine below_drewN ?_ _)))
        · intro h; obtain ⟨p, q⟩ := f4 h; exact ⟨by (repeat' (first | (with_reducible assumption) | ((with_reducible refine Blk.new ?_); first | rfl | (simp; done)) | (with_reducible refine Blk.later (by assumption) ?_) | (with_reducible refine Blk.alloc ?_) | (with_reducible refine Blk.drewN ?_) | (with_reducible refine Blk.drew ?_) | (with_reducible refine Blk.other ?_ (by first | omega | (simp; done) | (simp; omega))))), q⟩
        · intro h; obtain ⟨p, q⟩ := f11 h; exact ⟨by (repeat' (first | (with_reducible assumption) | ((with_reducible refine Blk.new ?_); first | rfl | (simp; done)) | (with_reducible refine Blk.later (by assumption) ?_) | (with_reducible refine Blk.alloc ?_) | (with_reducible refine Blk.drewN ?_) | (with_reducible refine Blk.drew ?_) | (with_reducible refine Blk.other ?_ (by first | omega | (simp; done) | (simp; omega))))), q⟩
        · intro h; obtain ⟨p, q⟩ := f14 h; exact ⟨by (repeat' (first | (with_reducible assumption) | ((with_reducible refine Blk.new ?_); first | rfl | (simp; done)) | (with_reducible refine Blk.later (by assumption) ?_) | (with_reducible refine Blk.alloc ?_) | (with_reducible refine Blk.drewN ?_) | (with_reducible refine Blk.drew ?_) | (with_reducible refine Blk.other ?_ (by first | omega | (simp; done) | (simp; omega))))), q⟩
        · intro h; obtain ⟨p, q⟩ := f15 h; exact ⟨by (repeat' (first | (with_reducible assumption) | ((with_reducible refine Blk.new ?_); first | rfl | (simp; done)) | (with_reducible refine Blk.later (by assumption) ?_) | (with_reducible refine Blk.alloc ?_) | (with_reducible refine Blk.drewN ?_) | (with_reducible refine Blk.drew ?_) | (with_reducible refine Blk.other ?_ (by first | omega | (simp; done) | (simp; omega))))), q⟩
        · exact d4_14
        · exact d4_15
        · exact d11_14
        · exact d11_15
        · exact d14_15
        · exact s14
        · exact s15
      · have ge14 : gg14 = false := hi2
        clear hall hi1 hi2
        subst ge14
        have ho2 := ho
        simp only [List.getElem?_toArray, List.getElem?_cons_zero, List.getElem?_cons_succ] at ho2
        have ho3 := Option.some.inj ho2; clear ho2; subst ho3
        obtain ⟨ba0, bb0⟩ := fb0.read; have bl0 := fb0.lt
        obtain ⟨ba1, bb1⟩ := fb1.read; have bl1 := fb1.lt
        obtain ⟨ba2, bb2⟩ := fb2.read; have bl2 := fb2.lt
        obtain rfl : gg16 = false := by cases gg16; rfl; exact Bool.noConfusion (s14 rfl)
        simp only [Act.put, List.setIfInBounds_toArray, List.set_cons_zero, List.set_cons_succ]
        simp only [cond_true, cond_false]
        refine inv_op ho (by kernel_rfl) (fun K hK => ?_)
        clear ho
        go_simp
        refine hK.out _ _ ?_
        unfold MeetI
        refine ⟨gg0, gg1, gg2, gg3, gg4, gg5, gg6, gg7, gg8, gg9, gg10, gg11, gg12, gg13, true, gg15, false, gg17, x4, x11, w9.heap.size, x15, rfl, by simp only [Act.put, List.setIfInBounds_toArray, List.set_cons_zero, List.set_cons_succ, cond_true, cond_false], ?_, ?_, ?_, ?_, ?_, ?_, ?_, ?_, ?_, ?_, ?_, ?_, ?_, ?_, ?_⟩
        · (repeat' (first | (with_reducible assumption) | ((with_reducible refine Blk.new ?_); first | rfl | (simp; done)) | (with_reducible refine Blk.later (by assumption) ?_) | (with_reducible refine Blk.alloc ?_) | (with_reducible refine Blk.drewN ?_) | (with_reducible refine Blk.drew ?_) | (with_reducible refine Blk.other ?_ (by first | omega | (simp; done) | (simp; omega)))))
        · (repeat' (first | (with_reducible assumption) | ((with_reducible refine Blk.new ?_); first | rfl | (simp; done)) | (with_reducible refine Blk.later (by assumption) ?_) | (with_reducible refine Blk.alloc ?_) | (with_reducible refine Blk.drewN ?_) | (with_reducible refine Blk.drew ?_) | (with_reducible refine Blk.other ?_ (by first | omega | (simp; done) | (simp; omega)))))
        · (repeat' (first | (with_reducible assumption) | ((with_reducible refine Blk.new ?_); first | rfl | (simp; done)) | (with_reducible refine Blk.later (by assumption) ?_) | (with_reducible refine Blk.alloc ?_) | (with_reducible refine Blk.drewN ?_) | (with_reducible refine Blk.drew ?_) | (with_reducible refine Blk.other ?_ (by first | omega | (simp; done) | (simp; omega)))))
        · (repeat' (first | (with_reducible exact Below.refl _ _) | (with_reducible assumption) | (with_reducible refine belowThru ?_ (by assumption)) | (with_reducible refine belowAlloc ?_) | (with_reducible refine Below.setCell ?_ (by first | omega | (simp; done) | (simp; omega)) _) | (with_reducible refine Below.drew ?_) | (with_reducible refine below_drewN ?_ _)))
        · intro h; obtain ⟨p, q⟩ := f4 h; exact ⟨by (repeat' (first | (with_reducible assumption) | ((with_reducible refine Blk.new ?_); first | rfl | (simp; done)) | (with_reducible refine Blk.later (by assumption) ?_) | (with_reducible refine Blk.alloc ?_) | (with_reducible refine Blk.drewN ?_) | (with_reducible refine Blk.drew ?_) | (with_reducible refine Blk.other ?_ (by first | omega | (simp; done) | (simp; omega))))), q⟩
        · intro h; obtain ⟨p, q⟩ := f11 h; exact ⟨by (repeat' (first | (with_reducible assumption) | ((with_reducible refine Blk.new ?_); first | rfl | (simp; done)) | (with_reducible refine Blk.later (by assumption) ?_) | (with_reducible refine Blk.alloc ?_) | (with_reducible refine Blk.drewN ?_) | (with_reducible refine Blk.drew ?_) | (with_reducible refine Blk.other ?_ (by first | omega | (simp; done) | (simp; omega))))), q⟩
        · intro _; exact ⟨Blk.new rfl, by have := fB.size; omega⟩
        · intro h; obtain ⟨p, q⟩ := f15 h; exact ⟨by (repeat' (first | (with_reducible assumption) | ((with_reducible refine Blk.new ?_); first | rfl | (simp; done)) | (with_reducible refine Blk.later (by assumption) ?_) | (with_reducible refine Blk.alloc ?_) | (with_reducible refine Blk.drewN ?_) | (with_reducible refine Blk.drew ?_) | (with_reducible refine Blk.other ?_ (by first | omega | (simp; done) | (simp; omega))))), q⟩
        · intro h _; have := (f4 h).1.lt; omega
        · exact d4_15
        · intro h _; have := (f11 h).1.lt; omega
        · exact d11_15
        · intro _ h; have := (f15 h).1.lt; omega
        · intro _; rfl
        · exact s15
      · have ge15 : gg15 = false := hi2
        clear hall hi1 hi2
        subst ge15
        have ho2 := ho
        simp only [List.getElem?_toArray, List.getElem?_cons_zero, List.getElem?_cons_succ] at ho2
        have ho3 := Option.some.inj ho2; clear ho2; subst ho3
        obtain ⟨ba0, bb0⟩ := fb0.read; have bl0 := fb0.lt
        obtain ⟨ba1, bb1⟩ := fb1.read; have bl1 := fb1.lt
        obtain ⟨ba2, bb2⟩ := fb2.read; have bl2 := fb2.lt
        obtain rfl : gg17 = false := by cases gg17; rfl; exact Bool.noConfusion (s15 rfl)
        simp only [Act.put, List.setIfInBounds_toArray, List.set_cons_zero, List.set_cons_succ]
        simp only [cond_true, cond_false]
        refine inv_op ho (by kernel_rfl) (fun K hK => ?_)
        clear ho
        go_simp
        refine hK.out _ _ ?_
        unfold MeetI
        refine ⟨gg0, gg1, gg2, gg3, gg4, gg5, gg6, gg7, gg8, gg9, gg10, gg11, gg12, gg13, gg14, true, gg16, false, x4, x11, x14, w9.heap.size, rfl, by simp only [Act.put, List.setIfInBounds_toArray, List.set_cons_zero, List.set_cons_succ, cond_true, cond_false], ?_, ?_, ?_, ?_, ?_, ?_, ?_, ?_, ?_, ?_, ?_, ?_, ?_, ?_, ?_⟩
        · (repeat' (first | (with_reducible assumption) | ((with_reducible refine Blk.new ?_); first | rfl | (simp; done)) | (with_reducible refine Blk.later (by assumption) ?_) | (with_reducible refine Blk.alloc ?_) | (with_reducible refine Blk.drewN ?_) | (with_reducible refine Blk.drew ?_) | (with_reducible refine Blk.other ?_ (by first | omega | (simp; done) | (simp; omega)))))
        · (repeat' (first | (with_reducible assumption) | ((with_reducible refine Blk.new ?_); first | rfl | (simp; done)) | (with_reducible refine Blk.later (by assumption) ?_) | (with_reducible refine Blk.alloc ?_) | (with_reducible refine Blk.drewN ?_) | (with_reducible refine Blk.drew ?_) | (with_reducible refine Blk.other ?_ (by first | omega | (simp; done) | (simp; omega)))))
        · (repeat' (first | (with_reducible assumption) | ((with_reducible refine Blk.new ?_); first | rfl | (simp; done)) | (with_reducible refine Blk.later (by assumption) ?_) | (with_reducible refine Blk.alloc ?_) | (with_reducible refine Blk.drewN ?_) | (with_reducible refine Blk.drew ?_) | (with_reducible refine Blk.other ?_ (by first | omega | (simp; done) | (simp; omega)))))
        · (repeat' (first | (with_reducible exact Below.refl _ _) | (with_reducible assumption) | (with_reducible refine belowThru ?_ (by assumption)) | (with_reducible refine belowAlloc ?_) | (with_reducible refine Below.setCell ?_ (by first | omega | (simp; done) | (simp; omega)) _) | (with_reducible refine Below.drew ?_) | (with_reducible refine below_drewN ?_ _)))
        · intro h; obtain ⟨p, q⟩ := f4 h; exact ⟨by (repeat' (first | (with_reducible assumption) | ((with_reducible refine Blk.new ?_); first | rfl | (simp; done)) | (with_reducible refine Blk.later (by assumption) ?_) | (with_reducible refine Blk.alloc ?_) | (with_reducible refine Blk.drewN ?_) | (with_reducible refine Blk.drew ?_) | (with_reducible refine Blk.other ?_ (by first | omega | (simp; done) | (simp; omega))))), q⟩
        · intro h; obtain ⟨p, q⟩ := f11 h; exact ⟨by (repeat' (first | (with_reducible assumption) | ((with_reducible refine Blk.new ?_); first | rfl | (simp; done)) | (with_reducible refine Blk.later (by assumption) ?_) | (with_reducible refine Blk.alloc ?_) | (with_reducible refine Blk.drewN ?_) | (with_reducible refine Blk.drew ?_) | (with_reducible refine Blk.other ?_ (by first | omega | (simp; done) | (simp; omega))))), q⟩
        · intro h; obtain ⟨p, q⟩ := f14 h; exact ⟨by (repeat' (first | (with_reducible assumption) | ((with_reducible refine Blk.new ?_); first | rfl | (simp; done)) | (with_reducible refine Blk.later (by assumption) ?_) | (with_reducible refine Blk.alloc ?_) | (with_reducible refine Blk.drewN ?_) | (with_reducible refine Blk.drew ?_) | (with_reducible refine Blk.other ?_ (by first | omega | (simp; done) | (simp; omega))))), q⟩
        · intro _; exact ⟨Blk.new rfl, by have := fB.size; omega⟩
        · exact d4_14
        · intro h _; have := (f4 h).1.lt; omega
        · exact d11_14
        · intro h _; have := (f11 h).1.lt; omega
        · intro h _; have := (f14 h).1.lt; omega
        · exact s14
        · intro _; rfl
      · have ge16 : gg16 = false := hi2
        have ge6 : gg6 = true := by cases ho; simp [Region.binds] at hall; simp_all
        have ge14 : gg14 = true := by cases ho; simp [Region.binds] at hall; simp_all
        clear hall hi1 hi2
        subst ge16 ge6 ge14
        have ho2 := ho
        simp only [List.getElem?_toArray, List.getElem?_cons_zero, List.getElem?_cons_succ] at ho2
        have ho3 := Option.some.inj ho2; clear ho2; subst ho3
        obtain ⟨p14, q14⟩ := f14 rfl
        obtain ⟨ra14, rb14⟩ := p14.read
        have rl14 := p14.lt
        obtain ⟨ba0, bb0⟩ := fb0.read; have bl0 := fb0.lt
        obtain ⟨ba1, bb1⟩ := fb1.read; have bl1 := fb1.lt
        obtain ⟨ba2, bb2⟩ := fb2.read; have bl2 := fb2.lt
        have rl14 := p14.lt
        skip
        simp only [Act.put, List.setIfInBounds_toArray, List.set_cons_zero, List.set_cons_succ]
        simp only [cond_true, cond_false]
        refine inv_op ho (by kernel_rfl) (fun K hK => ?_)
        clear ho
        go_simp
        refine hK.out _ _ ?_
        unfold MeetI
        refine ⟨gg0, gg1, gg2, gg3, gg4, gg5, true, gg7, gg8, gg9, gg10, gg11, gg12, gg13, true, gg15, true, gg17, x4, x11, x14, x15, rfl, by simp only [Act.put, List.setIfInBounds_toArray, List.set_cons_zero, List.set_cons_succ, cond_true, cond_false], ?_, ?_, ?_, ?_, ?_, ?_, ?_, ?_, ?_, ?_, ?_, ?_, ?_, ?_, ?_⟩
        · (repeat' (first | (with_reducible assumption) | ((with_reducible refine Blk.new ?_); first | rfl | (simp; done)) | (with_reducible refine Blk.later (by assumption) ?_) | (with_reducible refine Blk.alloc ?_) | (with_reducible refine Blk.drewN ?_) | (with_reducible refine Blk.drew ?_) | (with_reducible refine Blk.other ?_ (by first | omega | (simp; done) | (simp; omega)))))
        · (repeat' (first | (with_reducible assumption) | ((with_reducible refine Blk.new ?_); first | rfl | (simp; done)) | (with_reducible refine Blk.later (by assumption) ?_) | (with_reducible refine Blk.alloc ?_) | (with_reducible refine Blk.drewN ?_) | (with_reducible refine Blk.drew ?_) | (with_reducible refine Blk.other ?_ (by first | omega | (simp; done) | (simp; omega)))))
        · (repeat' (first | (with_reducible assumption) | ((with_reducible refine Blk.new ?_); first | rfl | (simp; done)) | (with_reducible refine Blk.later (by assumption) ?_) | (with_reducible refine Blk.alloc ?_) | (with_reducible refine Blk.drewN ?_) | (with_reducible refine Blk.drew ?_) | (with_reducible refine Blk.other ?_ (by first | omega | (simp; done) | (simp; omega)))))
        · (repeat' (first | (with_reducible exact Below.refl _ _) | (with_reducible assumption) | (with_reducible refine belowThru ?_ (by assumption)) | (with_reducible refine belowAlloc ?_) | (with_reducible refine Below.setCell ?_ (by first | omega | (simp; done) | (simp; omega)) _) | (with_reducible refine Below.drew ?_) | (with_reducible refine below_drewN ?_ _)))
        · intro h; obtain ⟨p, q⟩ := f4 h; have hne := d4_14 h rfl; exact ⟨by (repeat' (first | (with_reducible assumption) | ((with_reducible refine Blk.new ?_); first | rfl | (simp; done)) | (with_reducible refine Blk.later (by assumption) ?_) | (with_reducible refine Blk.alloc ?_) | (with_reducible refine Blk.drewN ?_) | (with_reducible refine Blk.drew ?_) | (with_reducible refine Blk.other ?_ (by first | omega | (simp; done) | (simp; omega))))), q⟩
        · intro h; obtain ⟨p, q⟩ := f11 h; have hne := d11_14 h rfl; exact ⟨by (repeat' (first | (with_reducible assumption) | ((with_reducible refine Blk.new ?_); first | rfl | (simp; done)) | (with_reducible refine Blk.later (by assumption) ?_) | (with_reducible refine Blk.alloc ?_) | (with_reducible refine Blk.drewN ?_) | (with_reducible refine Blk.drew ?_) | (with_reducible refine Blk.other ?_ (by first | omega | (simp; done) | (simp; omega))))), q⟩
        · intro _; exact ⟨by exact Blk.set2 p14, q14⟩
        · intro h; obtain ⟨p, q⟩ := f15 h; have hne := d14_15 rfl h; exact ⟨by (repeat' (first | (with_reducible assumption) | ((with_reducible refine Blk.new ?_); first | rfl | (simp; done)) | (with_reducible refine Blk.later (by assumption) ?_) | (with_reducible refine Blk.alloc ?_) | (with_reducible refine Blk.drewN ?_) | (with_reducible refine Blk.drew ?_) | (with_reducible refine Blk.other ?_ (by first | omega | (simp; done) | (simp; omega))))), q⟩
        · exact d4_14
        · exact d4_15
        · exact d11_14
        · exact d11_15
        · exact d14_15
        · intro _; rfl
        · exact s15
      · have ge17 : gg17 = false := hi2
        have ge13 : gg13 = true := by cases ho; simp [Region.binds] at hall; simp_all
        have ge15 : gg15 = true := by cases ho; simp [Region.binds] at hall; simp_all
        clear hall hi1 hi2
        subst ge17 ge13 ge15
        have ho2 := ho
        simp only [List.getElem?_toArray, List.getElem?_cons_zero, List.getElem?_cons_succ] at ho2
        have ho3 := Option.some.inj ho2; clear ho2; subst ho3
        obtain ⟨p15, q15⟩ := f15 rfl
        obtain ⟨ra15, rb15⟩ := p15.read
        have rl15 := p15.lt
        obtain ⟨ba0, bb0⟩ := fb0.read; have bl0 := fb0.lt
        obtain ⟨ba1, bb1⟩ := fb1.read; have bl1 := fb1.lt
        obtain ⟨ba2, bb2⟩ := fb2.read; have bl2 := fb2.lt
        have rl15 := p15.lt
        skip
        simp only [Act.put, List.setIfInBounds_toArray, List.set_cons_zero, List.set_cons_succ]
        simp only [cond_true, cond_false]
        refine inv_op ho (by kernel_rfl) (fun K hK => ?_)
        clear ho
        go_simp
        refine hK.out _ _ ?_
        unfold MeetI
        refine ⟨gg0, gg1, gg2, gg3, gg4, gg5, gg6, gg7, gg8, gg9, gg10, gg11, gg12, true, gg14, true, gg16, true, x4, x11, x14, x15, rfl, by simp only [Act.put, List.setIfInBounds_toArray, List.set_cons_zero, List.set_cons_succ, cond_true, cond_false], ?_, ?_, ?_, ?_, ?_, ?_, ?_, ?_, ?_, ?_, ?_, ?_, ?_, ?_, ?_⟩
        · (repeat' (first | (with_reducible assumption) | ((with_reducible refine Blk.new ?_); first | rfl | (simp; done)) | (with_reducible refine Blk.later (by assumption) ?_) | (with_reducible refine Blk.alloc ?_) | (with_reducible refine Blk.drewN ?_) | (with_reducible refine Blk.drew ?_) | (with_reducible refine Blk.other ?_ (by first | omega | (simp; done) | (simp; omega)))))
        · (repeat' (first | (with_reducible assumption) | ((with_reducible refine Blk.new ?_); first | rfl | (simp; done)) | (with_reducible refine Blk.later (by assumption) ?_) | (with_reducible refine Blk.alloc ?_) | (with_reducible refine Blk.drewN ?_) | (with_reducible refine Blk.drew ?_) | (with_reducible refine Blk.other ?_ (by first | omega | (simp; done) | (simp; omega)))))
        · (repeat' (first | (with_reducible assumption) | ((with_reducible refine Blk.new ?_); first | rfl | (simp; done)) | (with_reducible refine Blk.later (by assumption) ?_) | (with_reducible refine Blk.alloc ?_) | (with_reducible refine Blk.drewN ?_) | (with_reducible refine Blk.drew ?_) | (with_reducible refine Blk.other ?_ (by first | omega | (simp; done) | (simp; omega)))))
        · (repeat' (first | (with_reducible exact Below.refl _ _) | (with_reducible assumption) | (with_reducible refine belowThru ?_ (by assumption)) | (with_reducible refine belowAlloc ?_) | (with_reducible refine Below.setCell ?_ (by first | omega | (simp; done) | (simp; omega)) _) | (with_reducible refine Below.drew ?_) | (with_reducible refine below_drewN ?_ _)))
        · intro h; obtain ⟨p, q⟩ := f4 h; have hne := d4_15 h rfl; exact ⟨by (repeat' (first | (with_reducible assumption) | ((with_reducible refine Blk.new ?_); first | rfl | (simp; done)) | (with_reducible refine Blk.later (by assumption) ?_) | (with_reducible refine Blk.alloc ?_) | (with_reducible refine Blk.drewN ?_) | (with_reducible refine Blk.drew ?_) | (with_reducible refine Blk.other ?_ (by first | omega | (simp; done) | (simp; omega))))), q⟩
        · intro h; obtain ⟨p, q⟩ := f11 h; have hne := d11_15 h rfl; exact ⟨by (repeat' (first | (with_reducible assumption) | ((with_reducible refine Blk.new ?_); first | rfl | (simp; done)) | (with_reducible refine Blk.later (by assumption) ?_) | (with_reducible refine Blk.alloc ?_) | (with_reducible refine Blk.drewN ?_) | (with_reducible refine Blk.drew ?_) | (with_reducible refine Blk.other ?_ (by first | omega | (simp; done) | (simp; omega))))), q⟩
        · intro h; obtain ⟨p, q⟩ := f14 h; have hne := d14_15 h rfl; exact ⟨by (repeat' (first | (with_reducible assumption) | ((with_reducible refine Blk.new ?_); first | rfl | (simp; done)) | (with_reducible refine Blk.later (by assumption) ?_) | (with_reducible refine Blk.alloc ?_) | (with_reducible refine Blk.drewN ?_) | (with_reducible refine Blk.drew ?_) | (with_reducible refine Blk.other ?_ (by first | omega | (simp; done) | (simp; omega))))), q⟩
        · intro _; exact ⟨by exact Blk.set2 p15, q15⟩
        · exact d4_14
        · exact d4_15
        · exact d11_14
        · exact d11_15
        · exact d14_15
        · exact s14
        · intro _; rfl
      · exfalso; simp at hi1; omega
    · obtain ⟨gg0, gg1, gg2, gg3, gg4, gg5, gg6, gg7, gg8, gg9, gg10, gg11, gg12, gg13, gg14, gg15, gg16, gg17, x4, x11, x14, x15, hL, rfl, fb0, fb1, fb2, fB, f4, f11, f14, f15, d4_14, d4_15, d11_14, d11_15, d14_15, s14, s15⟩ := hI
      have hL2 : #[true, true, true, true, true, true, true, true, true, true, true, true, true, true, true, true, true, true] = #[gg0, gg1, gg2, gg3, gg4, gg5, gg6, gg7, gg8, gg9, gg10, gg11, gg12, gg13, gg14, gg15, gg16, gg17] := hL
      cases hL2
      obtain ⟨p4, q4⟩ := f4 rfl
      obtain ⟨p11, q11⟩ := f11 rfl
      obtain ⟨p14, q14⟩ := f14 rfl
      obtain ⟨p15, q15⟩ := f15 rfl
      have n4_14 := d4_14 rfl rfl
      have n4_15 := d4_15 rfl rfl
      have n11_14 := d11_14 rfl rfl
      have n11_15 := d11_15 rfl rfl
      have n14_15 := d14_15 rfl rfl
      clear f4 f11 f14 f15 d4_14 d4_15 d11_14 d11_15 d14_15 s14 s15
      simp only [Act.put, List.setIfInBounds_toArray, List.set_cons_zero, List.set_cons_succ]
      simp only [cond_true]
      go_wp2_with fail
      go_meet
      refine ⟨At2.mk q14 q15 n14_15 p14 p15, fb2, fB⟩
  case rest =>
    clear HU HV i0 i1
    obtain ⟨⟨pb, qb, rfl, rfl, g1, g2, hn, k3, k4⟩, k2, hB⟩ := hcut
    obtain ⟨a2, b2⟩ := k2.read; obtain ⟨a3, b3⟩ := k3.read; obtain ⟨a4, b4⟩ := k4.read
    have zz2 := k2.lt; have zz3 := k3.lt; have zz4 := k4.lt
    rcases hv with ⟨ho, rfl, rfl, rfl, rfl, rfl⟩ | ⟨ho, rfl, rfl, rfl, rfl, rfl⟩
    · go_wp2_with (go_at_call 104; (with_reducible refine (HO.out _).mono ?_); rintro e w1 ⟨rfl, hb⟩; (try (have zk := k0.lt; (first | ((with_reducible refine Blk.keepG hb k0 (fun h => ?_) ?_); (focus ((repeat' (first | (with_reducible assumption) | ((with_reducible refine Blk.new ?_); first | rfl | (simp; done)) | (with_reducible refine Blk.later (by assumption) ?_) | (with_reducible refine Blk.alloc ?_) | (with_reducible refine Blk.drewN ?_) | (with_reducible refine Blk.drew ?_) | (with_reducible refine Blk.other ?_ (by first | omega | (simp; done) | (simp; omega))))); done)); clear k0; intro k0) | (with_reducible replace k0 := Blk.later hb (Blk.set (Blk.set k0))) | (with_reducible replace k0 := Blk.later hb (Blk.set k0))); clear a0 b0; obtain ⟨a0, b0⟩ := k0.read; have zl := k0.lt)); (try (have zk := k1.lt; (first | ((with_reducible refine Blk.keepG hb k1 (fun h => ?_) ?_); (focus ((repeat' (first | (with_reducible assumption) | ((with_reducible refine Blk.new ?_); first | rfl | (simp; done)) | (with_reducible refine Blk.later (by assumption) ?_) | (with_reducible refine Blk.alloc ?_) | (with_reducible refine Blk.drewN ?_) | (with_reducible refine Blk.drew ?_) | (with_reducible refine Blk.other ?_ (by first | omega | (simp; done) | (simp; omega))))); done)); clear k1; intro k1) | (with_reducible replace k1 := Blk.later hb (Blk.set (Blk.set k1))) | (with_reducible replace k1 := Blk.later hb (Blk.set k1))); clear a1 b1; obtain ⟨a1, b1⟩ := k1.read; have zl := k1.lt)); (try (have zk := k2.lt; (first | ((with_reducible refine Blk.keepG hb k2 (fun h => ?_) ?_); (focus ((repeat' (first | (with_reducible assumption) | ((with_reducible refine Blk.new ?_); first | rfl | (simp; done)) | (with_reducible refine Blk.later (by assumption) ?_) | (with_reducible refine Blk.alloc ?_) | (with_reducible refine Blk.drewN ?_) | (with_reducible refine Blk.drew ?_) | (with_reducible refine Blk.other ?_ (by first | omega | (simp; done) | (simp; omega))))); done)); clear k2; intro k2) | (with_reducible replace k2 := Blk.later hb (Blk.set (Blk.set k2))) | (with_reducible replace k2 := Blk.later hb (Blk.set k2))); clear a2 b2; obtain ⟨a2, b2⟩ := k2.read; have zl := k2.lt)); (try (have zk := k3.lt; (first | ((with_reducible refine Blk.keepG hb k3 (fun h => ?_) ?_); (focus ((repeat' (first | (with_reducible assumption) | ((with_reducible refine Blk.new ?_); first | rfl | (simp; done)) | (with_reducible refine Blk.later (by assumption) ?_) | (with_reducible refine Blk.alloc ?_) | (with_reducible refine Blk.drewN ?_) | (with_reducible refine Blk.drew ?_) | (with_reducible refine Blk.other ?_ (by first | omega | (simp; done) | (simp; omega))))); done)); clear k3; intro k3) | (with_reducible replace k3 := Blk.later hb (Blk.set (Blk.set k3))) | (with_reducible replace k3 := Blk.later hb (Blk.set k3))); clear a3 b3; obtain ⟨a3, b3⟩ := k3.read; have zl := k3.lt)); (try (have zk := k4.lt; (first | ((with_reducible refine Blk.keepG hb k4 (fun h => ?_) ?_); (focus ((repeat' (first | (with_reducible assumption) | ((with_reducible refine Blk.new ?_); first | rfl | (simp; done)) | (with_reducible refine Blk.later (by assumption) ?_) | (with_reducible refine Blk.alloc ?_) | (with_reducible refine Blk.drewN ?_) | (with_reducible refine Blk.drew ?_) | (with_reducible refine Blk.other ?_ (by first | omega | (simp; done) | (simp; omega))))); done)); clear k4; intro k4) | (with_reducible replace k4 := Blk.later hb (Blk.set (Blk.set k4))) | (with_reducible replace k4 := Blk.later hb (Blk.set k4))); clear a4 b4; obtain ⟨a4, b4⟩ := k4.read; have zl := k4.lt)))
      exact bodyPost_ret (v := .tuple #[.agg #[.int .i64 0, .int .i64 0, .int .i64 0, .int .i64 0], .int .i64 6]) (by simp only [results, Try.results60]; go_simp) rfl ⟨rfl, by (repeat' (first | (with_reducible exact Below.refl _ _) | (with_reducible assumption) | (with_reducible refine belowThru ?_ (by assumption)) | (with_reducible refine belowAlloc ?_) | (with_reducible refine Below.setCell ?_ (by first | omega | (simp; done) | (simp; omega)) _) | (with_reducible refine Below.drew ?_) | (with_reducible refine below_drewN ?_ _)))⟩
    · go_wp2_with (go_at_call 104; (with_reducible refine (HO.out _).mono ?_); rintro e w1 ⟨rfl, hb⟩; (try (have zk := k0.lt; (first | ((with_reducible refine Blk.keepG hb k0 (fun h => ?_) ?_); (focus ((repeat' (first | (with_reducible assumption) | ((with_reducible refine Blk.new ?_); first | rfl | (simp; done)) | (with_reducible refine Blk.later (by assumption) ?_) | (with_reducible refine Blk.alloc ?_) | (with_reducible refine Blk.drewN ?_) | (with_reducible refine Blk.drew ?_) | (with_reducible refine Blk.other ?_ (by first | omega | (simp; done) | (simp; omega))))); done)); clear k0; intro k0) | (with_reducible replace k0 := Blk.later hb (Blk.set (Blk.set k0))) | (with_reducible replace k0 := Blk.later hb (Blk.set k0))); clear a0 b0; obtain ⟨a0, b0⟩ := k0.read; have zl := k0.lt)); (try (have zk := k1.lt; (first | ((with_reducible refine Blk.keepG hb k1 (fun h => ?_) ?_); (focus ((repeat' (first | (with_reducible assumption) | ((with_reducible refine Blk.new ?_); first | rfl | (simp; done)) | (with_reducible refine Blk.later (by assumption) ?_) | (with_reducible refine Blk.alloc ?_) | (with_reducible refine Blk.drewN ?_) | (with_reducible refine Blk.drew ?_) | (with_reducible refine Blk.other ?_ (by first | omega | (simp; done) | (simp; omega))))); done)); clear k1; intro k1) | (with_reducible replace k1 := Blk.later hb (Blk.set (Blk.set k1))) | (with_reducible replace k1 := Blk.later hb (Blk.set k1))); clear a1 b1; obtain ⟨a1, b1⟩ := k1.read; have zl := k1.lt)); (try (have zk := k2.lt; (first | ((with_reducible refine Blk.keepG hb k2 (fun h => ?_) ?_); (focus ((repeat' (first | (with_reducible assumption) | ((with_reducible refine Blk.new ?_); first | rfl | (simp; done)) | (with_reducible refine Blk.later (by assumption) ?_) | (with_reducible refine Blk.alloc ?_) | (with_reducible refine Blk.drewN ?_) | (with_reducible refine Blk.drew ?_) | (with_reducible refine Blk.other ?_ (by first | omega | (simp; done) | (simp; omega))))); done)); clear k2; intro k2) | (with_reducible replace k2 := Blk.later hb (Blk.set (Blk.set k2))) | (with_reducible replace k2 := Blk.later hb (Blk.set k2))); clear a2 b2; obtain ⟨a2, b2⟩ := k2.read; have zl := k2.lt)); (try (have zk := k3.lt; (first | ((with_reducible refine Blk.keepG hb k3 (fun h => ?_) ?_); (focus ((repeat' (first | (with_reducible assumption) | ((with_reducible refine Blk.new ?_); first | rfl | (simp; done)) | (with_reducible refine Blk.later (by assumption) ?_) | (with_reducible refine Blk.alloc ?_) | (with_reducible refine Blk.drewN ?_) | (with_reducible refine Blk.drew ?_) | (with_reducible refine Blk.other ?_ (by first | omega | (simp; done) | (simp; omega))))); done)); clear k3; intro k3) | (with_reducible replace k3 := Blk.later hb (Blk.set (Blk.set k3))) | (with_reducible replace k3 := Blk.later hb (Blk.set k3))); clear a3 b3; obtain ⟨a3, b3⟩ := k3.read; have zl := k3.lt)); (try (have zk := k4.lt; (first | ((with_reducible refine Blk.keepG hb k4 (fun h => ?_) ?_); (focus ((repeat' (first | (with_reducible assumption) | ((with_reducible refine Blk.new ?_); first | rfl | (simp; done)) | (with_reducible refine Blk.later (by assumption) ?_) | (with_reducible refine Blk.alloc ?_) | (with_reducible refine Blk.drewN ?_) | (with_reducible refine Blk.drew ?_) | (with_reducible refine Blk.other ?_ (by first | omega | (simp; done) | (simp; omega))))); done)); clear k4; intro k4) | (with_reducible replace k4 := Blk.later hb (Blk.set (Blk.set k4))) | (with_reducible replace k4 := Blk.later hb (Blk.set k4))); clear a4 b4; obtain ⟨a4, b4⟩ := k4.read; have zl := k4.lt)))
      exact bodyPost_ret (v := .tuple #[.agg #[.int .i64 A, .int .i64 B, .int .i64 C, .int .i64 D], .int .i64 0]) (by simp only [results, Try.results60]; go_simp) rfl ⟨rfl, by (repeat' (first | (with_reducible exact Below.refl _ _) | (with_reducible assumption) | (with_reducible refine belowThru ?_ (by assumption)) | (with_reducible refine belowAlloc ?_) | (with_reducible refine Below.setCell ?_ (by first | omega | (simp; done) | (simp; omega)) _) | (with_reducible refine Below.drew ?_) | (with_reducible refine below_drewN ?_ _)))⟩
end Go.Proofs.Ytbcgebobfnclnaa
/-
  Layer 1: what two enclosures share, for valid ones.
-/
namespace Go.Proofs.Ytbcgebobfnclnaa
open Go.RowKit

theorem hi1 (l m z : Rat) : hiQ l [m] ≤ z ↔ l ≤ z ∧ m ≤ z := by
  unfold hiQ; simp only [List.foldl_cons, List.foldl_nil]; grind
theorem lo1 (h n z : Rat) : z ≤ loQ h [n] ↔ z ≤ h ∧ z ≤ n := by
  unfold loQ; simp only [List.foldl_cons, List.foldl_nil]; grind
theorem hull1 (l m : Rat) (fl : fits l) (fm : fits m) (B : Nat) (w : World) (h0 : w.cell? ⟨B, 0, none⟩ = some (.int .i64 (fn m))) (h1 : w.cell? ⟨B, 1, none⟩ = some (.int .i64 (fd m))) :
    Calls Try.prog 103 #[.agg #[.int .i64 (fn l), .int .i64 (fd l)], .slice (some ⟨B, 0, none⟩) 1 1] w fun e w' => e = .returned (.agg #[.int .i64 (fn (loQ l [m])), .int .i64 (fd (loQ l [m])), .int .i64 (fn (hiQ l [m])), .int .i64 (fd (hiQ l [m]))]) ∧ Below w.heap.size w w' := by
  refine hull_any l [m] fl (by intro x hx; simp at hx; subst hx; exact fm) B 0 1 1 rfl (by omega) (by omega) w (fun i hi => ?_)
  obtain rfl : i = 0 := by omega
  exact ⟨h0, h1⟩
theorem meet_q (l h m n : Rat) (fl : fits l) (fh : fits h) (fm : fits m) (fn' : fits n) (hlh : l ≤ h) (hmn : m ≤ n) :
    ∃ A B C D E, (∀ w, Calls Try.prog 60 #[.agg #[.int .i64 (fn l), .int .i64 (fd l), .int .i64 (fn h), .int .i64 (fd h)], .agg #[.int .i64 (fn m), .int .i64 (fd m), .int .i64 (fn n), .int .i64 (fd n)]] w fun e w' => e = .returned (.tuple #[.agg #[.int .i64 A, .int .i64 B, .int .i64 C, .int .i64 D], .int .i64 E]) ∧ Below w.heap.size w w') ∧
      ((E = 6 ∧ ¬ hiQ l [m] ≤ loQ h [n]) ∨ (E = 0 ∧ hiQ l [m] ≤ loQ h [n] ∧ A = fn (hiQ l [m]) ∧ B = fd (hiQ l [m]) ∧ C = fn (loQ h [n]) ∧ D = fd (loQ h [n]))) := by
  have fL : fits (hiQ l [m]) := hiQ_fits l fl [m] (by intro x hx; simp at hx; subst hx; exact fm)
  have fH : fits (loQ h [n]) := loQ_fits h fh [n] (by intro x hx; simp at hx; subst hx; exact fn')
  have HU := hull1 l m fl fm
  have HV := hull1 h n fh fn'
  have hd : (ckS2 (fn l) (fd l) (fn h) (fd h) (fn m) (fd m) (fn n) (fd n) != 0) = false := by rw [ckS2_ok ⟨l, h, fl, fh, rfl, rfl, rfl, rfl, hlh⟩ ⟨m, n, fm, fn', rfl, rfl, rfl, rfl, hmn⟩]; rfl
  by_cases c : hiQ l [m] ≤ loQ h [n]
  · exact ⟨_, _, _, _, 0, fun w => meet_walk _ _ _ _ _ _ _ _ _ _ _ _ _ _ _ _ _ _ _ _ _ _ w hd HU HV (order_q _ _ fL fH) (.inr ⟨fun k => absurd (ordQ_gt.1 k) (Rat.not_lt.2 c), rfl, rfl, rfl, rfl, rfl⟩), .inr ⟨rfl, c, rfl, rfl, rfl, rfl⟩⟩
  · exact ⟨_, _, _, _, 6, fun w => meet_walk _ _ _ _ _ _ _ _ _ _ _ _ _ _ _ _ _ _ _ _ _ _ w hd HU HV (order_q _ _ fL fH) (.inl ⟨ordQ_gt.2 (Rat.not_le.1 c), rfl, rfl, rfl, rfl, rfl⟩), .inl ⟨rfl, c⟩⟩
end Go.Proofs.Ytbcgebobfnclnaa
/-
  More of rational numbers: what Make makes.
-/
namespace Go.Proofs.Ytbcgebobfnclnaa
theorem mkR_self (q : Rat) : mkR (fn q) (fd q) = q := by
  unfold mkR fn fd; exact Rat.num_divInt_den q
theorem mkR_eq (a b c d : Int) (hb : b ≠ 0) (hd : d ≠ 0) : mkR a b = mkR c d ↔ a * d = c * b := Rat.divInt_eq_divInt_iff hb hd
theorem mkR_cross (a b : Int) (hb : b ≠ 0) : fn (mkR a b) * b = a * fd (mkR a b) := by
  have h := (mkR_eq (fn (mkR a b)) (fd (mkR a b)) a b (fd_ne _) hb).1 (mkR_self _)
  exact h
theorem mkR_fits' (n d : Int) (d0 : d ≠ 0) (d1 : -4611686018427387903 ≤ d) (d2 : d ≤ 4611686018427387903) (n1 : -4611686018427387903 ≤ n) (n2 : n ≤ 4611686018427387903) : fits (mkR n d) := by
  obtain ⟨g, hg⟩ : ∃ g, g = gcdI (n.natAbs : Int) (d.natAbs : Int) := ⟨_, rfl⟩
  obtain ⟨p1, p2⟩ := mkR_parts n d g d0 hg
  have g1 : 0 < g := by rw [hg]; exact gcdI_pos_right _ _ (by omega)
  have a0 := Int.ediv_nonneg (show 0 ≤ (n.natAbs : Int) by omega) (show 0 ≤ g by omega)
  have a1 := Int.ediv_le_self g (show 0 ≤ (n.natAbs : Int) by omega)
  have b1 := Int.ediv_le_self g (show 0 ≤ (d.natAbs : Int) by omega)
  unfold fits
  rw [p1, p2]
  have sn : n.sign = -1 ∨ n.sign = 0 ∨ n.sign = 1 := by
    rcases Int.lt_trichotomy n 0 with h | h | h
    · exact .inl (Int.sign_eq_neg_one_of_neg h)
    · subst h; exact .inr (.inl rfl)
    · exact .inr (.inr (Int.sign_eq_one_of_pos h))
  have sd : d.sign = -1 ∨ d.sign = 1 := by
    rcases Int.lt_trichotomy d 0 with h | h | h
    · exact .inl (Int.sign_eq_neg_one_of_neg h)
    · exact absurd h d0
    · exact .inr (Int.sign_eq_one_of_pos h)
  rcases sn with h | h | h <;> rcases sd with k | k <;> rw [h, k] <;> omega
end Go.Proofs.Ytbcgebobfnclnaa
/-
  Layer 5: the first bright place of a list of numbers; the places of a profile.
-/
namespace Go.Proofs.Ytbcgebobfnclnaa
set_option linter.unusedVariables false
set_option linter.unusedSimpArgs false

def fb (t : Int) : List Int → Option Nat
  | [] => none
  | v :: q => if t ≤ v then some 0 else (fb t q).map (· + 1)
theorem fb_some {t : Int} {q : List Int} {j : Nat} : fb t q = some j ↔ ∃ v, q[j]? = some v ∧ t ≤ v ∧ ∀ k, k < j → ∀ u, q[k]? = some u → u < t := by
  induction q generalizing j with
  | nil => simp [fb]
  | cons v q ih =>
    unfold fb
    by_cases h : t ≤ v
    · rw [if_pos h]
      constructor
      · intro e; cases e; exact ⟨v, rfl, h, fun k hk => absurd hk (by omega)⟩
      · rintro ⟨u, hu, hl, hk⟩
        cases j with
        | zero => rfl
        | succ j => have := hk 0 (by omega) v rfl; omega
    · rw [if_neg h]
      cases j with
      | zero =>
        constructor
        · intro e; rw [Option.map_eq_some_iff] at e; obtain ⟨_, _, e⟩ := e; omega
        · rintro ⟨u, hu, hl, -⟩
          simp at hu; omega
      | succ j =>
        rw [Option.map_eq_some_iff]
        constructor
        · rintro ⟨i, hi, e⟩
          obtain rfl : i = j := by omega
          obtain ⟨u, hu, hl, hk⟩ := ih.1 hi
          refine ⟨u, by simpa using hu, hl, fun k hk' x hx => ?_⟩
          cases k with
          | zero => simp at hx; omega
          | succ k => exact hk k (by omega) x (by simpa using hx)
        · rintro ⟨u, hu, hl, hk⟩
          exact ⟨j, ih.2 ⟨u, by simpa using hu, hl, fun k hk' x hx => hk (k + 1) (by omega) x (by simpa using hx)⟩, rfl⟩
theorem fb_none {t : Int} {q : List Int} : fb t q = none ↔ ∀ u ∈ q, u < t := by
  induction q with
  | nil => simp [fb]
  | cons v q ih =>
    unfold fb
    by_cases h : t ≤ v
    · rw [if_pos h]
      constructor
      · intro e; cases e
      · intro k; have := k v (by simp); omega
    · rw [if_neg h, Option.map_eq_none_iff, ih]
      constructor
      · intro k u hu
        rcases List.mem_cons.1 hu with rfl | hu
        · omega
        · exact k u hu
      · intro k u hu; exact k u (List.mem_cons_of_mem _ hu)
theorem fb_lt {t : Int} {q : List Int} {j : Nat} (h : fb t q = some j) : j < q.length := by
  obtain ⟨v, hv, -⟩ := fb_some.1 h
  exact (List.getElem?_eq_some_iff.1 hv).1

/-- The place of the first bright one, from the start of the way on, at an index. -/
def pl (t : Int) (q : List Int) (j : Nat) : Rat :=
  if j = 0 then 0 else (j : Int) - (((q[j]?.getD 0) - t : Int) : Rat) / (((q[j]?.getD 0) - (q[j - 1]?.getD 0) : Int) : Rat)
def br (t : Int) (q : List Int) : Option Rat := (fb t q).map (pl t q)

theorem int_pos {a : Int} (h : 0 < a) : (0 : Rat) < (a : Rat) := by exact_mod_cast Rat.intCast_lt_intCast.2 h
theorem int_nonneg {a : Int} (h : 0 ≤ a) : (0 : Rat) ≤ (a : Rat) := by exact_mod_cast Rat.intCast_le_intCast.2 h
/-- A quotient of whole numbers, by what it is times the divisor. -/
theorem quo_spec (a b : Int) (hb : 0 < b) : ∃ x : Rat, x = (a : Rat) / (b : Rat) ∧ x * (b : Rat) = a := by
  have := int_pos hb
  exact ⟨_, rfl, by grind⟩
theorem quo_bounds {a b : Int} (ha : 0 ≤ a) (hb : 0 < b) (h : a < b) : (0 : Rat) ≤ (a : Rat) / (b : Rat) ∧ (a : Rat) / (b : Rat) < 1 := by
  obtain ⟨x, hx, e⟩ := quo_spec a b hb
  rw [← hx]
  have p := int_pos hb
  have a0 := int_nonneg ha
  have ab : (a : Rat) < (b : Rat) := Rat.intCast_lt_intCast.2 h
  constructor
  · rcases (@Rat.le_total 0 x) with h | h
    · exact h
    · by_cases hx0 : x = 0
      · grind
      · exfalso
        have : x < 0 := by grind
        have := Rat.mul_pos (show 0 < -x by grind) p
        grind
  · rcases (@Rat.le_total x 1) with h | h
    · by_cases e1 : x = 1
      · grind
      · grind
    · exfalso
      have := Rat.mul_nonneg (show 0 ≤ x - 1 by grind) (show 0 ≤ (b : Rat) by grind)
      grind
theorem quo_le {a b c d : Int} (hb : 0 < b) (hd : 0 < d) (h : a * d ≤ c * b) : (a : Rat) / (b : Rat) ≤ (c : Rat) / (d : Rat) := by
  obtain ⟨x, hx, e⟩ := quo_spec a b hb
  obtain ⟨y, hy, f⟩ := quo_spec c d hd
  rw [← hx, ← hy]
  have p := int_pos hb
  have p2 := int_pos hd
  have k : (a : Rat) * d ≤ (c : Rat) * b := by
    rw [← Rat.intCast_mul, ← Rat.intCast_mul]; exact Rat.intCast_le_intCast.2 h
  rcases (@Rat.le_total x y) with h | h
  · exact h
  · by_cases e0 : x = y
    · grind
    · exfalso
      have q := Rat.mul_pos (Rat.mul_pos (show 0 < x - y by grind) p) p2
      have e2 : (x - y) * (b : Rat) * (d : Rat) = (x * b) * d - (y * d) * b := by grind
      rw [e2, e, f] at q
      clear hx hy e f e2
      grind
theorem pl_zero (t : Int) (q : List Int) : pl t q 0 = 0 := if_pos rfl
theorem pl_succ (t : Int) (q : List Int) (j : Nat) {v u : Int} (hv : q[j + 1]? = some v) (hu : q[j]? = some u) : pl t q (j + 1) = ((j : Int) + 1 : Rat) - ((v - t : Int) : Rat) / ((v - u : Int) : Rat) := by
  unfold pl
  rw [if_neg (by omega), Nat.add_sub_cancel, hv, hu]
  simp
theorem fb_step {t : Int} {q : List Int} {j : Nat} (h : fb t q = some (j + 1)) : ∃ v u, q[j + 1]? = some v ∧ q[j]? = some u ∧ u < t ∧ t ≤ v := by
  obtain ⟨v, hv, hl, hk⟩ := fb_some.1 h
  have hlt := fb_lt h
  have hu : q[j]? = some (q[j]'(by omega)) := List.getElem?_eq_getElem (by omega)
  exact ⟨v, _, hv, hu, hk j (by omega) _ hu, hl⟩
theorem pl_bounds {t : Int} {q : List Int} {j : Nat} (h : fb t q = some (j + 1)) : ((j : Int) : Rat) < pl t q (j + 1) ∧ pl t q (j + 1) ≤ ((j : Int) : Rat) + 1 := by
  obtain ⟨v, u, hv, hu, h1, h2⟩ := fb_step h
  rw [pl_succ t q j hv hu]
  have := quo_bounds (a := v - t) (b := v - u) (by omega) (by omega) (by omega)
  grind
theorem pl_nonneg {t : Int} {q : List Int} {j : Nat} (h : fb t q = some j) : 0 ≤ pl t q j ∧ pl t q j ≤ ((j : Int) : Rat) := by
  cases j with
  | zero => rw [pl_zero]; exact ⟨by grind, by simp⟩
  | succ j =>
    have := pl_bounds h
    have := int_nonneg (show 0 ≤ (j : Int) by omega)
    have e : (((j + 1 : Nat) : Int) : Rat) = ((j : Int) : Rat) + 1 := by push_cast; simp
    rw [e]
    grind
/-- Greater values have an earlier first bright place. -/
theorem br_mono {t : Int} {q r : List Int} (hl : r.length = q.length) (hle : ∀ (k : Nat) (u v : Int), q[k]? = some u → r[k]? = some v → u ≤ v) {j : Nat} (h : fb t q = some j) :
    ∃ i, fb t r = some i ∧ i ≤ j ∧ pl t r i ≤ pl t q j := by
  have hlt := fb_lt h
  obtain ⟨v, hv, hge, hk⟩ := fb_some.1 h
  have hr : r[j]? = some (r[j]'(by omega)) := List.getElem?_eq_getElem (by omega)
  cases e : fb t r with
  | none =>
    have := fb_none.1 e _ (List.getElem_mem (show j < r.length by omega))
    have := hle j _ _ hv hr
    omega
  | some i =>
    refine ⟨i, rfl, ?_⟩
    obtain ⟨x, hx, hxe, hxk⟩ := fb_some.1 e
    have hij : i ≤ j := by
      rcases Nat.lt_or_ge j i with h1 | h1
      · have := hxk j h1 _ hr
        have := hle j _ _ hv hr
        omega
      · exact h1
    refine ⟨hij, ?_⟩
    have b1 := pl_nonneg e
    rcases Nat.lt_or_ge i j with h1 | h1
    · obtain ⟨j', rfl⟩ : ∃ j', j = j' + 1 := ⟨j - 1, by omega⟩
      have b2 := pl_bounds h
      have : ((i : Int) : Rat) ≤ ((j' : Int) : Rat) := Rat.intCast_le_intCast.2 (by omega)
      grind
    · obtain rfl : i = j := by omega
      cases i with
      | zero => rw [pl_zero, pl_zero]; grind
      | succ i =>
        obtain ⟨v1, u1, hv1, hu1, a1, a2⟩ := fb_step h
        obtain ⟨v2, u2, hv2, hu2, c1, c2⟩ := fb_step e
        rw [pl_succ t q i hv1 hu1, pl_succ t r i hv2 hu2]
        have l1 := hle _ _ _ hv1 hv2
        have l2 := hle _ _ _ hu1 hu2
        have := quo_le (a := v1 - t) (b := v1 - u1) (c := v2 - t) (d := v2 - u2) (by omega) (by omega) (by
          have e1 : (v1 - t) * (v2 - u2) = (v1 - t) * (v2 - t) + (v1 - t) * (t - u2) := by rw [← Int.mul_add]; congr 1; omega
          have e2 : (v2 - t) * (v1 - u1) = (v1 - t) * (v2 - t) + (v2 - t) * (t - u1) := by rw [Int.mul_comm (v1 - t), ← Int.mul_add]; congr 1; omega
          rw [e1, e2]
          have := Int.mul_le_mul (show v1 - t ≤ v2 - t by omega) (show t - u2 ≤ t - u1 by omega) (by omega) (by omega)
          omega)
        grind
theorem fb_scale (t : Int) (q : List Int) : fb (4 * t) (q.map (4 * ·)) = fb t q := by
  induction q with
  | nil => rfl
  | cons v q ih =>
    rw [List.map_cons]
    unfold fb
    rw [ih]
    by_cases h : t ≤ v
    · rw [if_pos h, if_pos (by omega)]
    · rw [if_neg h, if_neg (by omega)]
theorem quo_scale (a b : Int) (hb : 0 < b) : ((4 * a : Int) : Rat) / ((4 * b : Int) : Rat) = (a : Rat) / (b : Rat) := by
  have h1 := quo_le (a := 4 * a) (b := 4 * b) (c := a) (d := b) (by omega) hb (by rw [Int.mul_assoc, Int.mul_left_comm]; exact Int.le_refl _)
  have h2 := quo_le (a := a) (b := b) (c := 4 * a) (d := 4 * b) hb (by omega) (by rw [Int.mul_assoc, Int.mul_left_comm]; exact Int.le_refl _)
  grind
theorem br_scale (t : Int) (q : List Int) : br (4 * t) (q.map (4 * ·)) = br t q := by
  unfold br
  rw [fb_scale]
  cases h : fb t q with
  | none => rfl
  | some j =>
    rw [Option.map_some, Option.map_some]
    congr 1
    cases j with
    | zero => rw [pl_zero, pl_zero]
    | succ j =>
      obtain ⟨v, u, hv, hu, h1, h2⟩ := fb_step h
      rw [pl_succ t q j hv hu, pl_succ (4 * t) (q.map (4 * ·)) j (v := 4 * v) (u := 4 * u) (by simp [hv]) (by simp [hu])]
      rw [← Int.mul_sub, ← Int.mul_sub, quo_scale _ _ (by omega)]
/-- The place of the first bright one from an index on; of the last one up to an index. -/
def FX (t : Int) (zs : List Int) (p : Nat) : Option Rat := (br t (zs.drop p)).map fun d => ((p : Int) : Rat) + d
def LX (t : Int) (zs : List Int) (p : Nat) : Option Rat := (br t (zs.take (p + 1)).reverse).map fun d => ((p : Int) : Rat) - d

theorem drop_get (zs : List Int) (p k : Nat) : (zs.drop p)[k]? = zs[p + k]? := by rw [List.getElem?_drop]
theorem back_get (zs : List Int) (p k : Nat) (hp : p < zs.length) : (zs.take (p + 1)).reverse[k]? = if k ≤ p then zs[p - k]? else none := by
  have hl : (zs.take (p + 1)).length = p + 1 := by rw [List.length_take]; omega
  by_cases h : k ≤ p
  · rw [if_pos h, List.getElem?_reverse (by omega), hl, List.getElem?_take, if_pos (by omega)]
    congr 1
  · rw [if_neg h, List.getElem?_eq_none (by rw [List.length_reverse]; omega)]
theorem back_len (zs : List Int) (p : Nat) (hp : p < zs.length) : (zs.take (p + 1)).reverse.length = p + 1 := by
  rw [List.length_reverse, List.length_take]; omega

/-- One list is nowhere greater than another one. -/
def LeL (q r : List Int) : Prop := r.length = q.length ∧ ∀ (k : Nat) (u v : Int), q[k]? = some u → r[k]? = some v → u ≤ v
theorem LeL.drop {q r : List Int} (h : LeL q r) (p : Nat) : LeL (q.drop p) (r.drop p) :=
  ⟨by rw [List.length_drop, List.length_drop, h.1], fun k u v hu hv => h.2 (p + k) u v (by rw [← drop_get]; exact hu) (by rw [← drop_get]; exact hv)⟩
theorem LeL.back {q r : List Int} (h : LeL q r) (p : Nat) (hp : p < q.length) : LeL (q.take (p + 1)).reverse (r.take (p + 1)).reverse := by
  refine ⟨by rw [back_len _ _ hp, back_len _ _ (by rw [h.1]; exact hp)], fun k u v hu hv => ?_⟩
  rw [back_get _ _ _ hp] at hu
  rw [back_get _ _ _ (by rw [h.1]; exact hp)] at hv
  split at hu
  · rw [if_pos (by assumption)] at hv; exact h.2 _ u v hu hv
  · cases hu
theorem br_le {t : Int} {q r : List Int} (h : LeL q r) {d : Rat} (hd : br t q = some d) : ∃ e, br t r = some e ∧ e ≤ d := by
  unfold br at hd
  obtain ⟨j, hj, rfl⟩ := Option.map_eq_some_iff.1 hd
  obtain ⟨i, hi, -, hle⟩ := br_mono h.1 h.2 hj
  exact ⟨_, by unfold br; rw [hi]; rfl, hle⟩
theorem FX_le {t : Int} {q r : List Int} (h : LeL q r) {p : Nat} {x : Rat} (hx : FX t q p = some x) : ∃ y, FX t r p = some y ∧ y ≤ x := by
  unfold FX at hx ⊢
  obtain ⟨d, hd, rfl⟩ := Option.map_eq_some_iff.1 hx
  obtain ⟨e, he, hle⟩ := br_le (h.drop p) hd
  exact ⟨_, by rw [he]; rfl, by grind⟩
theorem LX_le {t : Int} {q r : List Int} (h : LeL q r) {p : Nat} (hp : p < q.length) {x : Rat} (hx : LX t q p = some x) : ∃ y, LX t r p = some y ∧ x ≤ y := by
  unfold LX at hx ⊢
  obtain ⟨d, hd, rfl⟩ := Option.map_eq_some_iff.1 hx
  obtain ⟨e, he, hle⟩ := br_le (h.back p hp) hd
  exact ⟨_, by rw [he]; rfl, by grind⟩
theorem br_none {t : Int} {q : List Int} : br t q = none ↔ ∀ u ∈ q, u < t := by
  unfold br; rw [Option.map_eq_none_iff, fb_none]
theorem FX_none {t : Int} {zs : List Int} {p : Nat} : FX t zs p = none ↔ ∀ k u, p ≤ k → zs[k]? = some u → u < t := by
  unfold FX; rw [Option.map_eq_none_iff, br_none]
  constructor
  · intro h k u hk hu
    refine h u (List.mem_of_getElem? (i := k - p) ?_)
    rw [drop_get, ← hu]; congr 1; omega
  · intro h u hu
    obtain ⟨k, hk⟩ := List.getElem?_of_mem hu
    rw [drop_get] at hk
    exact h (p + k) u (by omega) hk
theorem LX_none {t : Int} {zs : List Int} {p : Nat} (hp : p < zs.length) : LX t zs p = none ↔ ∀ k u, k ≤ p → zs[k]? = some u → u < t := by
  unfold LX; rw [Option.map_eq_none_iff, br_none]
  constructor
  · intro h k u hk hu
    refine h u (List.mem_of_getElem? (i := p - k) ?_)
    rw [back_get _ _ _ hp, if_pos (by omega), ← hu]; congr 1; omega
  · intro h u hu
    obtain ⟨k, hk⟩ := List.getElem?_of_mem hu
    rw [back_get _ _ _ hp] at hk
    split at hk
    · exact h (p - k) u (by omega) hk
    · cases hk
/-- Where there is a first bright place, there is a last one. -/
theorem LX_of_FX {t : Int} {zs : List Int} (hl : 0 < zs.length) {x : Rat} (h : FX t zs 0 = some x) : ∃ y, LX t zs (zs.length - 1) = some y := by
  cases e : LX t zs (zs.length - 1) with
  | some y => exact ⟨y, rfl⟩
  | none =>
    rw [LX_none (by omega)] at e
    have : FX t zs 0 = none := FX_none.2 fun k u _ hu => e k u (by have := (List.getElem?_eq_some_iff.1 hu).1; omega) hu
    rw [this] at h; cases h

/-- All values are those of a profile. -/
def V8 (zs : List Int) : Prop := ∀ v ∈ zs, 0 ≤ v ∧ v ≤ 255
/-- A valid profile. -/
def okP (zs : List Int) : Prop := (2 ≤ zs.length ∧ zs.length ≤ 64) ∧ V8 zs
instance (zs : List Int) : Decidable (V8 zs) := inferInstanceAs (Decidable (∀ v ∈ zs, _))
instance (zs : List Int) : Decidable (okP zs) := inferInstanceAs (Decidable (_ ∧ _))
theorem mkR_div (a b : Int) : mkR a b = (a : Rat) / (b : Rat) := Rat.divInt_eq_div a b
/-- The place as a fraction with small parts. -/
theorem pl_repr {t : Int} {q : List Int} {j : Nat} (hq : V8 q) (ht : 1 ≤ t) (h : fb t q = some j) : ∃ N D : Int, 1 ≤ D ∧ D ≤ 255 ∧ 0 ≤ N ∧ N ≤ j * D ∧ pl t q j = mkR N D := by
  cases j with
  | zero => exact ⟨0, 1, by omega, by omega, by omega, by omega, by rw [pl_zero, mkR_div]; grind⟩
  | succ j =>
    obtain ⟨v, u, hv, hu, h1, h2⟩ := fb_step h
    have b1 := hq v (List.mem_of_getElem? hv)
    have b2 := hq u (List.mem_of_getElem? hu)
    rw [pl_succ t q j hv hu]
    have e : ((j + 1 : Nat) : Int) * (v - u) = (j : Int) * (v - u) + (v - u) := by push_cast; rw [Int.add_mul, Int.one_mul]
    have e0 := Int.mul_nonneg (show 0 ≤ (j : Int) by omega) (show 0 ≤ v - u by omega)
    refine ⟨((j + 1 : Nat) : Int) * (v - u) - (v - t), v - u, by omega, by omega, by omega, by omega, ?_⟩
    have e2 : ((((j + 1 : Nat) : Int) * (v - u) - (v - t) : Int) : Rat) = (((j : Int) : Rat) + 1) * ((v - u : Int) : Rat) - ((v - t : Int) : Rat) := by
      rw [Rat.intCast_sub (((j + 1 : Nat) : Int) * (v - u)) (v - t), Rat.intCast_mul (((j + 1 : Nat) : Int)) (v - u), Int.natCast_add, Rat.intCast_add]; rfl
    rw [mkR_div, e2]
    have := int_pos (show 0 < v - u by omega)
    obtain ⟨r, hr⟩ : ∃ r : Rat, ((v - u : Int) : Rat) = r := ⟨_, rfl⟩
    obtain ⟨s, hs⟩ : ∃ s : Rat, ((v - t : Int) : Rat) = s := ⟨_, rfl⟩
    rw [hr] at this ⊢
    rw [hs]
    grind
theorem mkR_bound (a b A B : Int) (hb : 1 ≤ b) (hB : b ≤ B) (h1 : -A ≤ a) (h2 : a ≤ A) : -A ≤ fn (mkR a b) ∧ fn (mkR a b) ≤ A ∧ fd (mkR a b) ≤ B := by
  obtain ⟨g, hg⟩ : ∃ g, g = gcdI (a.natAbs : Int) (b.natAbs : Int) := ⟨_, rfl⟩
  obtain ⟨p1, p2⟩ := mkR_parts a b g (by omega) hg
  have g1 : 0 < g := by rw [hg]; exact gcdI_pos_right _ _ (by omega)
  have a0 := Int.ediv_nonneg (show 0 ≤ (a.natAbs : Int) by omega) (show 0 ≤ g by omega)
  have a1 := Int.ediv_le_self g (show 0 ≤ (a.natAbs : Int) by omega)
  have b1 := Int.ediv_le_self g (show 0 ≤ (b.natAbs : Int) by omega)
  rw [p1, p2, Int.sign_eq_one_of_pos (show 0 < b by omega)]
  rcases Int.lt_trichotomy a 0 with h | h | h
  · rw [Int.sign_eq_neg_one_of_neg h]; omega
  · subst h; simp at a1 b1 ⊢; omega
  · rw [Int.sign_eq_one_of_pos h]; omega
theorem V8.drop {zs : List Int} (h : V8 zs) (p : Nat) : V8 (zs.drop p) := fun v hv => h v (List.mem_of_mem_drop hv)
theorem V8.back {zs : List Int} (h : V8 zs) (p : Nat) : V8 (zs.take p).reverse := fun v hv => h v (List.mem_of_mem_take (List.mem_reverse.1 hv))
/-- Places have small parts. -/
theorem FX_repr {t : Int} {zs : List Int} {p : Nat} {x : Rat} (hz : okP zs) (ht : 1 ≤ t) (hp : p < zs.length) (h : FX t zs p = some x) : ∃ N D : Int, 1 ≤ D ∧ D ≤ 255 ∧ (p : Int) * D ≤ N ∧ N ≤ ((zs.length : Int) - 1) * D ∧ x = mkR N D := by
  unfold FX br at h
  obtain ⟨d, hd, rfl⟩ := Option.map_eq_some_iff.1 h
  obtain ⟨j, hj, rfl⟩ := Option.map_eq_some_iff.1 hd
  obtain ⟨N, D, d1, d2, n0, n1, e⟩ := pl_repr (hz.2.drop p) ht hj
  have hlt := fb_lt hj
  rw [List.length_drop] at hlt
  refine ⟨p * D + N, D, d1, d2, by omega, ?_, ?_⟩
  · have := Int.mul_le_mul_of_nonneg_right (show (p : Int) + j ≤ (zs.length : Int) - 1 by omega) (show 0 ≤ D by omega)
    rw [Int.add_mul] at this
    omega
  · rw [e, mkR_div, mkR_div, Rat.intCast_add, Rat.intCast_mul]
    have := int_pos (show 0 < D by omega)
    grind
theorem LX_repr {t : Int} {zs : List Int} {p : Nat} {x : Rat} (hz : okP zs) (ht : 1 ≤ t) (hp : p < zs.length) (h : LX t zs p = some x) : ∃ N D : Int, 1 ≤ D ∧ D ≤ 255 ∧ 0 ≤ N ∧ N ≤ p * D ∧ x = mkR N D := by
  unfold LX br at h
  obtain ⟨d, hd, rfl⟩ := Option.map_eq_some_iff.1 h
  obtain ⟨j, hj, rfl⟩ := Option.map_eq_some_iff.1 hd
  obtain ⟨N, D, d1, d2, n0, n1, e⟩ := pl_repr (hz.2.back (p + 1)) ht hj
  have hlt := fb_lt hj
  rw [back_len _ _ hp] at hlt
  refine ⟨p * D - N, D, d1, d2, ?_, by omega, ?_⟩
  · have := Int.mul_le_mul_of_nonneg_right (show (j : Int) ≤ (p : Int) by omega) (show 0 ≤ D by omega)
    omega
  · rw [e, mkR_div, mkR_div, Rat.intCast_sub, Rat.intCast_mul]
    have := int_pos (show 0 < D by omega)
    grind
/-- The upper and the lower profile. -/
def upL (n : Int) (zs : List Int) : List Int := zs.map fun v => if 255 ≤ v + n then 255 else v + n
def lwL (n : Int) (zs : List Int) : List Int := zs.map fun v => if v - n ≤ 0 then 0 else v - n
theorem upL_length (n : Int) (zs : List Int) : (upL n zs).length = zs.length := by simp [upL]
theorem lwL_length (n : Int) (zs : List Int) : (lwL n zs).length = zs.length := by simp [lwL]
theorem upL_get (n : Int) (zs : List Int) (k : Nat) : (upL n zs)[k]? = zs[k]?.map fun v => if 255 ≤ v + n then 255 else v + n := by simp [upL]
theorem lwL_get (n : Int) (zs : List Int) (k : Nat) : (lwL n zs)[k]? = zs[k]?.map fun v => if v - n ≤ 0 then 0 else v - n := by simp [lwL]
theorem upL_V8 {n : Int} {zs : List Int} (h : V8 zs) (hn : 0 ≤ n) : V8 (upL n zs) := by
  intro v hv
  obtain ⟨u, hu, rfl⟩ := List.mem_map.1 hv
  have := h u hu
  split <;> omega
theorem lwL_V8 {n : Int} {zs : List Int} (h : V8 zs) (hn : 0 ≤ n) : V8 (lwL n zs) := by
  intro v hv
  obtain ⟨u, hu, rfl⟩ := List.mem_map.1 hv
  have := h u hu
  split <;> omega
theorem upL_ok {n : Int} {zs : List Int} (h : okP zs) (hn : 0 ≤ n) : okP (upL n zs) := ⟨by rw [upL_length]; exact h.1, upL_V8 h.2 hn⟩
theorem lwL_ok {n : Int} {zs : List Int} (h : okP zs) (hn : 0 ≤ n) : okP (lwL n zs) := ⟨by rw [lwL_length]; exact h.1, lwL_V8 h.2 hn⟩
theorem LeL.trans {p q r : List Int} (h : LeL p q) (k : LeL q r) : LeL p r :=
  ⟨k.1.trans h.1, fun i u v hu hv => by
    have hl := (List.getElem?_eq_some_iff.1 hu).1
    have hq : q[i]? = some (q[i]'(by rw [h.1]; exact hl)) := List.getElem?_eq_getElem _
    have := h.2 i _ _ hu hq
    have := k.2 i _ _ hq hv
    omega⟩
theorem lw_up {n : Int} {zs : List Int} (h : V8 zs) (hn : 0 ≤ n) : LeL (lwL n zs) (upL n zs) := by
  refine ⟨by rw [upL_length, lwL_length], fun k u v hu hv => ?_⟩
  rw [lwL_get] at hu; rw [upL_get] at hv
  obtain ⟨x, hx, rfl⟩ := Option.map_eq_some_iff.1 hu
  rw [hx, Option.map_some] at hv
  cases hv
  have := h x (List.mem_of_getElem? hx)
  split <;> split <;> omega
/-- The distance from the first to the last bright place. -/
def WX (t : Int) (zs : List Int) : Option Rat := (FX t zs 0).bind fun x => (LX t zs (zs.length - 1)).map fun y => y - x
theorem WX_some {t : Int} {zs : List Int} {w : Rat} : WX t zs = some w ↔ ∃ x y, FX t zs 0 = some x ∧ LX t zs (zs.length - 1) = some y ∧ w = y - x := by
  unfold WX
  rw [Option.bind_eq_some_iff]
  constructor
  · rintro ⟨x, hx, h⟩
    obtain ⟨y, hy, e⟩ := Option.map_eq_some_iff.1 h
    exact ⟨x, y, hx, hy, e.symm⟩
  · rintro ⟨x, y, hx, hy, e⟩
    exact ⟨x, hx, by rw [hy, e]; rfl⟩
theorem WX_none {t : Int} {zs : List Int} (hl : 0 < zs.length) : WX t zs = none ↔ FX t zs 0 = none := by
  unfold WX
  cases e : FX t zs 0 with
  | none => simp
  | some x => obtain ⟨y, hy⟩ := LX_of_FX hl e; simp [hy]
theorem WX_le {t : Int} {q r : List Int} (h : LeL q r) (hl : 0 < q.length) {w : Rat} (hw : WX t q = some w) : ∃ v, WX t r = some v ∧ w ≤ v := by
  obtain ⟨x, y, hx, hy, rfl⟩ := WX_some.1 hw
  obtain ⟨x', hx', h1⟩ := FX_le h hx
  obtain ⟨y', hy', h2⟩ := LX_le h (by omega) hy
  rw [← h.1] at hy'
  exact ⟨y' - x', WX_some.2 ⟨x', y', hx', hy', rfl⟩, by grind⟩
theorem mkR_sgn (a b : Int) (h : 0 ≤ a) (hb : 1 ≤ b) : 0 ≤ fn (mkR a b) := by
  have e := mkR_cross a b (by omega)
  have := Int.mul_nonneg h (show 0 ≤ fd (mkR a b) by have := fd_pos (mkR a b); omega)
  rw [← e] at this
  rcases (show fn (mkR a b) < 0 ∨ 0 ≤ fn (mkR a b) by omega) with k | k
  · have := Int.mul_neg_of_neg_of_pos k (show 0 < b by omega); omega
  · exact k
theorem FX_fits {t : Int} {zs : List Int} {p : Nat} {x : Rat} (hz : okP zs) (ht : 1 ≤ t) (hp : p < zs.length) (h : FX t zs p = some x) : (0 ≤ fn x ∧ fn x ≤ 16320 ∧ fd x ≤ 255) ∧ fits x := by
  obtain ⟨N, D, d1, d2, n0, n1, rfl⟩ := FX_repr hz ht hp h
  have a1 := Int.mul_nonneg (show 0 ≤ (p : Int) by omega) (show 0 ≤ D by omega)
  have a2 := Int.mul_le_mul (show (zs.length : Int) - 1 ≤ 63 by have := hz.1.2; omega) d2 (by omega) (by omega)
  have b := mkR_bound N D 16320 255 d1 d2 (by omega) (by omega)
  have c := mkR_sgn N D (by omega) d1
  exact ⟨⟨c, b.2.1, b.2.2⟩, by unfold fits; omega⟩
theorem LX_fits {t : Int} {zs : List Int} {p : Nat} {x : Rat} (hz : okP zs) (ht : 1 ≤ t) (hp : p < zs.length) (h : LX t zs p = some x) : (0 ≤ fn x ∧ fn x ≤ 16320 ∧ fd x ≤ 255) ∧ fits x := by
  obtain ⟨N, D, d1, d2, n0, n1, rfl⟩ := LX_repr hz ht hp h
  have a2 := Int.mul_le_mul (show (p : Int) ≤ 63 by have := hz.1.2; omega) d2 (by omega) (by omega)
  have b := mkR_bound N D 16320 255 d1 d2 (by omega) (by omega)
  have c := mkR_sgn N D (by omega) d1
  exact ⟨⟨c, b.2.1, b.2.2⟩, by unfold fits; omega⟩
theorem WX_fits {t : Int} {zs : List Int} {w : Rat} (hz : okP zs) (ht : 1 ≤ t) (h : WX t zs = some w) : (-4161600 ≤ fn w ∧ fn w ≤ 4161600 ∧ fd w ≤ 65025) ∧ fits w := by
  obtain ⟨x, y, hx, hy, rfl⟩ := WX_some.1 h
  have hl := hz.1
  obtain ⟨⟨x0, x1, x2⟩, -⟩ := FX_fits hz ht (by omega) hx
  obtain ⟨⟨y0, y1, y2⟩, -⟩ := LX_fits hz ht (by omega) hy
  have dx := fd_pos x; have dy := fd_pos y
  have e : y - x = mkR (fn y * fd x - fn x * fd y) (fd y * fd x) := by
    rw [mkR_div, Rat.intCast_sub, Rat.intCast_mul, Rat.intCast_mul, Rat.intCast_mul]
    have hx := mkR_self x; have hy := mkR_self y
    rw [mkR_div] at hx hy
    have := int_pos (show 0 < fd x by omega); have := int_pos (show 0 < fd y by omega)
    grind
  have m1 := Int.mul_le_mul y1 x2 (by omega) (by omega)
  have m2 := Int.mul_le_mul x1 y2 (by omega) (by omega)
  have m3 := Int.mul_nonneg y0 (show 0 ≤ fd x by omega)
  have m4 := Int.mul_nonneg x0 (show 0 ≤ fd y by omega)
  have m5 := Int.mul_le_mul y2 x2 (by omega) (by omega)
  have m6 := Int.mul_pos (show 0 < fd y by omega) (show 0 < fd x by omega)
  have b := mkR_bound (fn y * fd x - fn x * fd y) (fd y * fd x) 4161600 65025 (by omega) (by omega) (by omega) (by omega)
  rw [← e] at b
  exact ⟨b, by unfold fits; omega⟩
end Go.Proofs.Ytbcgebobfnclnaa
/-
  Layer 5: ranges, thresholds, noises, valid profiles, by the code.
-/
namespace Go.Proofs.Ytbcgebobfnclnaa
open Go.RowKit
set_option linter.unusedVariables false
set_option linter.unusedSimpArgs false

set_option maxHeartbeats 400000 in
theorem gwithin_yes (n lo hi : Int) (h1 : lo ≤ n) (h2 : n ≤ hi) (w : World) :
    Calls Try.prog 79 #[.int .i64 n, .int .i64 lo, .int .i64 hi] w fun e w' => e = .returned (.bool true) ∧ w = w' := by
  go_enter Try.func79, Try.ntmps79
  go_wp2
  go_ret
  exact ⟨rfl, rfl⟩
set_option maxHeartbeats 400000 in
theorem gwithin_no (n lo hi : Int) (h : ¬ (lo ≤ n ∧ n ≤ hi)) (w : World) :
    Calls Try.prog 79 #[.int .i64 n, .int .i64 lo, .int .i64 hi] w fun e w' => e = .returned (.bool false) ∧ w = w' := by
  by_cases h1 : lo ≤ n
  · have hd : decide (n ≤ hi) = false := by simp; omega
    clear h
    go_enter Try.func79, Try.ntmps79
    go_wp2
    go_ret
    exact ⟨by first | rfl | simp, rfl⟩
  · clear h
    go_enter Try.func79, Try.ntmps79
    go_wp2
    go_ret
    exact ⟨by first | rfl | simp, rfl⟩
theorem gwithin_any (n lo hi : Int) (w : World) :
    Calls Try.prog 79 #[.int .i64 n, .int .i64 lo, .int .i64 hi] w fun e w' => e = .returned (.bool (decide (lo ≤ n ∧ n ≤ hi))) ∧ w = w' := by
  by_cases h : lo ≤ n ∧ n ≤ hi
  · rw [decide_eq_true h]; exact gwithin_yes n lo hi h.1 h.2 w
  · rw [decide_eq_false h]; exact gwithin_no n lo hi h w
/-- A threshold; a noise. -/
def okT (t : Int) : Prop := 1 ≤ t ∧ t ≤ 255
def okN (n : Int) : Prop := 0 ≤ n ∧ n ≤ 64
instance (t : Int) : Decidable (okT t) := inferInstanceAs (Decidable (_ ∧ _))
instance (t : Int) : Decidable (okN t) := inferInstanceAs (Decidable (_ ∧ _))
set_option maxHeartbeats 400000 in
theorem isThr_any (t : Int) (w : World) :
    Calls Try.prog 86 #[.int .i64 t] w fun e w' => e = .returned (.bool (decide (okT t))) ∧ w = w' := by
  have HC := Lib.hid (gwithin_any t 1 255)
  have e : decide (okT t) = decide (1 ≤ t ∧ t ≤ 255) := rfl
  rw [e]
  obtain ⟨b, hb⟩ : ∃ b, decide (1 ≤ t ∧ t ≤ 255) = b := ⟨_, rfl⟩
  rw [hb] at HC ⊢
  clear hb e
  go_enter Try.func86, Try.ntmps86
  go_wp2_with (go_at_call 79; ((with_reducible refine (HC.out _).mono ?_); rintro e w1 ⟨rfl, rfl⟩))
  go_ret
  exact ⟨rfl, rfl⟩
set_option maxHeartbeats 400000 in
theorem isNoise_any (t : Int) (w : World) :
    Calls Try.prog 87 #[.int .i64 t] w fun e w' => e = .returned (.bool (decide (okN t))) ∧ w = w' := by
  have HC := Lib.hid (gwithin_any t 0 64)
  have e : decide (okN t) = decide (0 ≤ t ∧ t ≤ 64) := rfl
  rw [e]
  obtain ⟨b, hb⟩ : ∃ b, decide (0 ≤ t ∧ t ≤ 64) = b := ⟨_, rfl⟩
  rw [hb] at HC ⊢
  clear hb e
  go_enter Try.func87, Try.ntmps87
  go_wp2_with (go_at_call 79; ((with_reducible refine (HC.out _).mono ?_); rintro e w1 ⟨rfl, rfl⟩))
  go_ret
  exact ⟨rfl, rfl⟩

theorem V8.snoc {zs : List Int} {k : Nat} {z : Int} (h : V8 (zs.take k)) (hz : zs[k]? = some z) (ok : 0 ≤ z ∧ z ≤ 255) : V8 (zs.take (k + 1)) := by
  rw [List.take_add_one, hz]
  intro x hx
  rcases List.mem_append.1 hx with k | k
  · exact h x k
  · simp at k; subst k; exact ok
theorem V8.all {zs : List Int} {k : Nat} (h : V8 (zs.take k)) (hk : zs.length ≤ k) : V8 zs := by
  rwa [List.take_of_length_le hk] at h
theorem V8.not {zs : List Int} {k : Nat} {z : Int} (hz : zs[k]? = some z) (no : ¬ (0 ≤ z ∧ z ≤ 255)) : ¬ V8 zs := fun h => no (h z (List.mem_of_getElem? hz))
/-- 0, or the error of a profile that is not valid. -/
def ckP (zs : List Int) : Int := if okP zs then 0 else 50
theorem ckP_ok {zs : List Int} (h : okP zs) : ckP zs = 0 := if_pos h
theorem ckP_no {zs : List Int} (h : ¬ okP zs) : ckP zs = 50 := if_neg h
set_option maxHeartbeats 2000000 in
theorem ckP_loop (a : Option Addr) (n c : Nat) (zs : List Int) (hn2 : 2 ≤ n) (hn64 : n ≤ 64) (w : World) (hR : Row w a n (iv zs)) :
    Calls Try.prog 34 #[.slice a n c] w fun e w' => e = .returned (.int .i64 (ckP zs)) ∧ Below w.heap.size w w' := by
  have hx : zs.length = n := by have := hR.1; rwa [iv_length] at this
  have HX := Lib.hid hx; have HR := Lib.hid hR
  clear hx hR
  have p2 : (2 : Int) ≤ (n : Int) := by omega
  have p3 : (n : Int) ≤ 64 := by omega
  have HL := Lib.hid (gwithin_yes (n : Int) 2 64 p2 p3)
  go_enter Try.func34, Try.ntmps34
  go_wp2_with (go_at_call 79; ((with_reducible refine (HL.out _).mono ?_); rintro e w1 ⟨rfl, rfl⟩))
  go_loopw [4, 11] (fun v i wr => ∃ k : Nat, k ≤ n ∧ i = .int .i64 k ∧ Hid (V8 (zs.take k)) ∧ Below w.heap.size w wr) (fun _ i _ => n - (intOf i).toNat)
  case atStart => exact ⟨0, Nat.zero_le _, rfl, (show V8 (zs.take 0) from fun z hz => by simp at hz), by (repeat' (first | (with_reducible exact Below.refl _ _) | (with_reducible assumption) | (with_reducible refine belowThru ?_ (by assumption)) | (with_reducible refine belowAlloc ?_) | (with_reducible refine Below.setCell ?_ (by first | omega | (simp; done) | (simp; omega)) _) | (with_reducible refine Below.drew ?_) | (with_reducible refine below_drewN ?_ _)))⟩
  case round =>
    obtain ⟨k, hk, rfl, ht, hB⟩ := hrel
    by_cases hlt : k < n
    · obtain ⟨b1, o1, z1, rfl, l1, h1, c1⟩ := HR.out.int hlt
      have c1 := cell_later hB c1
      have p0 : (0 : Int) ≤ (k : Int) := by omega
      have p1 : (k : Int) < (n : Int) := by omega
      by_cases he : 0 ≤ z1 ∧ z1 ≤ 255
      · have ht' : Hid (V8 (zs.take (k + 1))) := V8.snoc ht.out h1 he
        have HC := Lib.hid (gwithin_yes z1 0 255 he.1 he.2)
        clear h1 he
        go_wp2_with (go_at_call 79; ((with_reducible refine (HC.out _).mono ?_); rintro e w1 ⟨rfl, rfl⟩))
        go_roundw
        case rel => exact ⟨k + 1, hlt, by go_num, ht', by (repeat' (first | (with_reducible exact Below.refl _ _) | (with_reducible assumption) | (with_reducible refine belowThru ?_ (by assumption)) | (with_reducible refine belowAlloc ?_) | (with_reducible refine Below.setCell ?_ (by first | omega | (simp; done) | (simp; omega)) _) | (with_reducible refine Below.drew ?_) | (with_reducible refine below_drewN ?_ _)))⟩
        case measure => simp [intOf]; omega
      · have hz : ckP zs = 50 := ckP_no (fun h => V8.not h1 he h.2)
        have HC := Lib.hid (gwithin_no z1 0 255 he)
        clear h1 he
        go_wp2_with (go_at_call 79; ((with_reducible refine (HC.out _).mono ?_); rintro e w1 ⟨rfl, rfl⟩))
        go_ret
        exact ⟨by rw [hz]; rfl, by (repeat' (first | (with_reducible exact Below.refl _ _) | (with_reducible assumption) | (with_reducible refine belowThru ?_ (by assumption)) | (with_reducible refine belowAlloc ?_) | (with_reducible refine Below.setCell ?_ (by first | omega | (simp; done) | (simp; omega)) _) | (with_reducible refine Below.drew ?_) | (with_reducible refine below_drewN ?_ _)))⟩
    · have hz : ckP zs = 0 := ckP_ok ⟨⟨by rw [HX.out]; exact hn2, by rw [HX.out]; exact hn64⟩, V8.all (k := k) ht.out (by rw [HX.out]; omega)⟩
      go_wp2
      go_ret
      exact ⟨by rw [hz]; rfl, by (repeat' (first | (with_reducible exact Below.refl _ _) | (with_reducible assumption) | (with_reducible refine belowThru ?_ (by assumption)) | (with_reducible refine belowAlloc ?_) | (with_reducible refine Below.setCell ?_ (by first | omega | (simp; done) | (simp; omega)) _) | (with_reducible refine Below.drew ?_) | (with_reducible refine below_drewN ?_ _)))⟩
set_option maxHeartbeats 400000 in
theorem ckP_len (a : Option Addr) (n c : Nat) (hn : n ≤ maxLen) (h : ¬ (2 ≤ n ∧ n ≤ 64)) (w : World) :
    Calls Try.prog 34 #[.slice a n c] w fun e w' => e = .returned (.int .i64 50) ∧ Below w.heap.size w w' := by
  have HL := Lib.hid (gwithin_no (n : Int) 2 64 (fun k => h (by omega)))
  unfold maxLen at hn
  clear h
  go_enter Try.func34, Try.ntmps34
  go_wp2_with (go_at_call 79; ((with_reducible refine (HL.out _).mono ?_); rintro e w1 ⟨rfl, rfl⟩))
  go_ret
  exact ⟨rfl, by (repeat' (first | (with_reducible exact Below.refl _ _) | (with_reducible assumption) | (with_reducible refine belowThru ?_ (by assumption)) | (with_reducible refine belowAlloc ?_) | (with_reducible refine Below.setCell ?_ (by first | omega | (simp; done) | (simp; omega)) _) | (with_reducible refine Below.drew ?_) | (with_reducible refine below_drewN ?_ _)))⟩
theorem ckP_any (a : Option Addr) (n c : Nat) (zs : List Int) (hn : n ≤ maxLen) (w : World) (hR : Row w a n (iv zs)) :
    Calls Try.prog 34 #[.slice a n c] w fun e w' => e = .returned (.int .i64 (ckP zs)) ∧ Below w.heap.size w w' := by
  by_cases hl : 2 ≤ n ∧ n ≤ 64
  · exact ckP_loop a n c zs hl.1 hl.2 w hR
  · have hx : zs.length = n := by have := hR.1; rwa [iv_length] at this
    rw [ckP_no (fun h => hl (by rw [← hx]; exact h.1))]
    exact ckP_len a n c hn hl w
end Go.Proofs.Ytbcgebobfnclnaa
/-
  Layer 5: the iterator over a profile, from an index to one of its ends.
-/
namespace Go.Proofs.Ytbcgebobfnclnaa
open Go.RowKit Go.Shelf
set_option linter.unusedVariables false
set_option linter.unusedSimpArgs false

attribute [local go_sem] Oper.semAt_some

/-- An element of a way: how far it is from the start, and its value. -/
abbrev Wel (q : List Int) := { x : Nat × Int // q[x.1]? = some x.2 }
def weEnc {q : List Int} (p s : Int) (x : Wel q) : Array Value := #[.int .i64 (p + s * (x.1.1 : Int)), .int .i64 x.1.2]
/-- So many have come, in order. -/
def WAll {q : List Int} (k : Nat) (xs : List (Wel q)) : Prop := xs.map (fun x => x.1.1) = List.range k
theorem WAll.snoc {q : List Int} {k : Nat} {xs : List (Wel q)} (h : WAll k xs) (x : Wel q) (hx : x.1.1 = k) : WAll (k + 1) (xs ++ [x]) := by
  unfold WAll at *
  rw [List.map_append, h, List.range_succ, List.map_singleton, hx]
theorem WAll.length {q : List Int} {k : Nat} {xs : List (Wel q)} (h : WAll k xs) : xs.length = k := by
  have := congrArg List.length h
  simpa using this
/-- The boxes that the iterator reads. -/
def AlG (Ba Bp Bs : Nat) (p s : Int) (a : Option Addr) (n c : Nat) (W : World) : Prop :=
  W.cell? ⟨Ba, 0, none⟩ = some (.int .i64 p) ∧ W.cell? ⟨Bp, 0, none⟩ = some (.slice a n c) ∧ W.cell? ⟨Bs, 0, none⟩ = some (.int .i64 s)
/-- The list q is the way through zs from p on by steps of s. -/
def IsWay (zs : List Int) (n : Nat) (p s : Int) (q : List Int) : Prop :=
  (∀ (k : Nat) (v : Int), q[k]? = some v → ∃ j : Nat, p + s * (k : Int) = (j : Int) ∧ j < n ∧ zs[j]? = some v) ∧ ¬ (0 ≤ p + s * (q.length : Int) ∧ p + s * (q.length : Int) < n) ∧ q.length ≤ 64

set_option maxRecDepth 100000 in
set_option maxHeartbeats 2000000 in
theorem along1_in (m l Ba Bp Bs n c : Nat) (a : Option Addr) (p s : Int) (zs q : List Int) (hm : 1 ≤ m) (hn : n ≤ 64) (hs : s = 1 ∨ s = -1) (hp0 : 0 ≤ p) (hp1 : p < 64) (hw : IsWay zs n p s q) (W0 : World) (hG : AlG Ba Bp Bs p s a n c W0) (hR : Row W0 a n (iv zs))
    (J Jx : List (Wel q) → World → Prop) (B : Nat) (hJ : AbidesFrom B J)
    (hY : ∀ pre x W, J pre W → pre.length < q.length → YieldAt Fence.wide (m - 1) Try.prog l (weEnc p s x) W fun e W' =>
      (e = .returned (.bool true) ∧ J (pre ++ [x]) W' ∧ Below W0.heap.size W W') ∨ (e = .returned (.bool false) ∧ Jx (pre ++ [x]) W'))
    (W : World) (hW : Below W0.heap.size W0 W) (h0 : J [] W) :
    CallsIn Fence.wide m Try.prog 126 #[.func (.yield l) #[] #[], .pointer (some ⟨Ba, 0, none⟩), .pointer (some ⟨Bp, 0, none⟩), .pointer (some ⟨Bs, 0, none⟩)] W fun e W' => (∃ v, e = .returned v) ∧
      ((∃ xs, WAll q.length xs ∧ J xs W') ∨ (∃ pre, (∃ k, WAll k pre) ∧ Jx pre W')) := by
  have HY := Lib.hid hY
  have HR := Lib.hid hR
  have HW := Lib.hid hw
  clear hY hR hw
  obtain ⟨g0, g1, g2⟩ := hG
  have HG := Lib.hid (⟨g0, g1, g2⟩ : AlG Ba Bp Bs p s a n c W0)
  have g0 := cell_later hW g0
  have g1 := cell_later hW g1
  have g2 := cell_later hW g2
  refine callsIn_of_wp Try.func126 rfl trivial ?_ rfl
  simp only [Try.ntmps126, List.size_toArray, List.length_cons, List.length_nil, Nat.reduceAdd, Nat.reduceSub, Array.replicate_succ, Array.replicate_zero, List.push_toArray, List.append_toArray, List.nil_append, List.cons_append]
  gi_wp2
  clear g0 g1 g2
  gi_loopw [5] (fun i wr => ∃ k : Nat, k ≤ q.length ∧ i = .int .i64 (p + s * (k : Int)) ∧ ∃ pre, WAll k pre ∧ J pre wr ∧ Hid (Below W0.heap.size W0 wr))
    (fun i _ => if s = 1 then q.length - (intOf i - p).toNat else q.length - (p - intOf i).toNat)
  case atStart => exact ⟨0, Nat.zero_le _, by simp, [], rfl, h0, hW⟩
  case round =>
    obtain ⟨k, hk, rfl, pre, hpre, hJs, hB'⟩ := hrel
    clear h0 hW
    have hB := hB'.out
    obtain ⟨c0, c1, c2⟩ := HG.out
    have c0 := cell_later hB c0
    have c1 := cell_later hB c1
    have c2 := cell_later hB c2
    have hq64 := HW.out.2.2
    have hsk : s * (k : Int) = k ∨ s * (k : Int) = -k := by rcases hs with rfl | rfl <;> simp
    obtain ⟨i, hi⟩ : ∃ i, p + s * (k : Int) = i := ⟨_, rfl⟩
    by_cases hlt : k < q.length
    · obtain ⟨v, hv⟩ : ∃ v, q[k]? = some v := ⟨_, List.getElem?_eq_getElem hlt⟩
      obtain ⟨j, hj, hjn, hz⟩ := HW.out.1 k v hv
      obtain ⟨bb, oo, z, rfl, hbb, hz2, cz⟩ := HR.out.int hjn
      rw [hz] at hz2; cases hz2
      have cz := cell_later hB cz
      rw [hi] at hj
      subst hj
      have i0 : (0 : Int) ≤ (j : Int) := by omega
      have i1 : (j : Int) < (n : Int) := by omega
      obtain ⟨fn, tmps, assign, body, hy, hR⟩ := HY.out pre ⟨(k, v), hv⟩ wr hJs (by rw [hpre.length]; exact hlt)
      dsimp only [weEnc] at hy
      rw [hi] at hy ⊢
      have hnx : p + s * ((k + 1 : Nat) : Int) = (j : Int) + s := by rw [← hi]; push_cast; rw [Int.mul_add, Int.mul_one, Int.add_assoc]
      have hwr : IntKind.i64.wrap ((j : Int) + s) = (j : Int) + s := IntWalk.i64_in _ (by omega)
      gi_wp2
      refine hR.mono ?_
      rintro e W3 (⟨rfl, hJ3, hk3⟩ | ⟨rfl, hJx3⟩)
      · have hB3 := hB.trans hk3
        obtain ⟨d0, d1, d2⟩ := HG.out
        have d2 := cell_later hB3 d2
        gi_wp2
        go_roundw
        case rel => exact ⟨k + 1, by omega, by rw [hnx], _, hpre.snoc _ rfl, hJ3, hB3⟩
        case measure => simp [intOf]; rcases hs with rfl | rfl <;> simp <;> omega
      · gi_wp2
        refine bodyPost_ret (results_none rfl _ _ _) rfl ?_
        exact ⟨⟨_, rfl⟩, .inr ⟨_, ⟨k + 1, hpre.snoc _ rfl⟩, hJx3⟩⟩
    · obtain rfl : k = q.length := by omega
      have he := HW.out.2.1
      rw [hi] at he ⊢
      have hib : -64 ≤ i ∧ i ≤ 128 := by omega
      by_cases h1 : 0 ≤ i
      · have h2 : decide (i < (n : Int)) = false := by simp; omega
        clear he
        gi_wp2
        go_end0
        exact ⟨⟨_, rfl⟩, .inl ⟨pre, hpre, hJs⟩⟩
      · clear he
        gi_wp2
        go_end0
        exact ⟨⟨_, rfl⟩, .inl ⟨pre, hpre, hJs⟩⟩

set_option maxHeartbeats 1000000 in
theorem along_any (p s : Int) (a : Option Addr) (n c : Nat) (w : World) :
    Calls Try.prog 105 #[.slice a n c, .int .i64 p, .int .i64 s] w fun e w' => e = .returned (.func (.func 126) #[] #[.pointer (some ⟨w.heap.size + 1, 0, none⟩), .pointer (some ⟨w.heap.size, 0, none⟩), .pointer (some ⟨w.heap.size + 1 + 1, 0, none⟩)]) ∧ w' = ((w.alloc (.cells #[.slice a n c] 27)).alloc (.cells #[.int .i64 p] 3)).alloc (.cells #[.int .i64 s] 3) := by
  go_enter Try.func105, Try.ntmps105
  go_wp2
  go_ret
  exact ⟨rfl, rfl⟩

/-- What a loop over a way may count on. -/
theorem along_stops (m Ba Bp Bs n c : Nat) (a : Option Addr) (p s : Int) (zs q : List Int) (hm : 1 ≤ m) (hn : n ≤ 64) (hs : s = 1 ∨ s = -1) (hp0 : 0 ≤ p) (hp1 : p < 64) (hw : IsWay zs n p s q) (W0 : World) (hG : AlG Ba Bp Bs p s a n c W0) (hR : Row W0 a n (iv zs)) :
    SeqStopsK Fence.wide m Try.prog 126 #[.pointer (some ⟨Ba, 0, none⟩), .pointer (some ⟨Bp, 0, none⟩), .pointer (some ⟨Bs, 0, none⟩)] (weEnc (q := q) p s) (Below W0.heap.size) (WAll q.length) (fun pre => ∃ k, WAll k pre) q.length W0 := fun l J Jx W hW hJ _ hY h0 =>
  along1_in m l Ba Bp Bs n c a p s zs q hm hn hs hp0 hp1 hw W0 hG hR J Jx _ hJ hY W hW h0
end Go.Proofs.Ytbcgebobfnclnaa
