/-
  The texts that the laws of this seat share, merged: part 6.
-/
import Derived.BigQuiet
import Derived.Deep.CutBlock
import Derived.Deep.DeepCutAuto
import Derived.Deep.Draws
import Derived.Deep.LoopGhost
import Derived.Deep.OwnRows
import Derived.Deep.QuietTactic
import Derived.Deep.RegionHeld3
import Derived.IntWalk
import Derived.Laws.AppendOwn
import Derived.Laws.Bits64b
import Derived.Lib.Hide
import Derived.Lib.ItoaNum
import Derived.LoopIn
import Derived.LoopNIn
import Derived.LoopTactic
import Derived.OneCell
import Derived.Orders
import Derived.OwnWalkIn
import Derived.RangeFuncBound
import Derived.RangeFuncCalls
import Derived.RangeFuncLeaves
import Derived.RangeFuncNested
import Derived.Shelf.Abstract
import Derived.Shelf.AbstractIn
import Derived.Shelf.Bits.Mul64
import Derived.Shelf.RegionOpen
import Derived.Shelf.Small.Bits
import Derived.Shelf.Spec.BitsCarry
import Derived.Shelf.Strconv.Itoa0
import Derived.TacticsInMore
import Derived.Test.YtdimmnoflenfhaaProg
import Derived.WalkKit
import Derived.WalkLawsBesides
import Derived.WalkSmall
import Derived.WalkSpells
import Derived.Test.YtdimmnoflenfhaaM3
import Derived.Test.YtdimmnoflenfhaaM4
import Derived.Test.YtdimmnoflenfhaaM5
/-
  Layer 1: the enclosure of what two enclosures share.
-/
namespace Go.Proofs.Ytdimmnoflenfhaa
open Go.RowKit

theorem Blk.set2 {w : World} {b : Nat} {x y u v : Value} {t : TypeId} (h : Blk w b #[x, y] t) : Blk ((w.setCell ⟨b, 0, none⟩ u).setCell ⟨b, 1, none⟩ v) b #[u, v] t := Blk.set (Blk.set h)

/-- What holds of the region whichever operations have come up. -/
def MeetI (l1 l2 h1 h2 m1 m2 n1 n2 L1 L2 H1 H2 c1 c2 e1 e2 : Int) (w : World) (b : Act) (L : Array Bool) (a : Act) (w9 : World) : Prop :=
  ∃ (gg0 gg1 gg2 gg3 gg4 gg5 gg6 gg7 gg8 gg9 gg10 gg11 gg12 gg13 gg14 gg15 gg16 gg17 : Bool) (x4 x11 x14 x15 : Nat), L = #[gg0, gg1, gg2, gg3, gg4, gg5, gg6, gg7, gg8, gg9, gg10, gg11, gg12, gg13, gg14, gg15, gg16, gg17] ∧ a = ((((((((((((((((b).put (some 17) (cond gg0 (.pointer (some ⟨w.heap.size, 0, none⟩)) undef)).put (some 18) (cond gg1 (.agg #[.int .i64 l1, .int .i64 l2]) undef)).put (some 19) (cond gg2 (.pointer (some ⟨(w.heap.size + 1), 0, none⟩)) undef)).put (some 20) (cond gg3 (.agg #[.int .i64 m1, .int .i64 m2]) undef)).put (some 21) (cond gg4 (.slice (some ⟨x4, 0, none⟩) 1 1) undef)).put (some 22) (cond gg5 (.agg #[.int .i64 c1, .int .i64 c2, .int .i64 L1, .int .i64 L2]) undef)).put (some 23) (cond gg6 (.agg #[.int .i64 L1, .int .i64 L2]) undef)).put (some 24) (cond gg7 (.pointer (some ⟨w.heap.size, 2, none⟩)) undef)).put (some 25) (cond gg8 (.agg #[.int .i64 h1, .int .i64 h2]) undef)).put (some 26) (cond gg9 (.pointer (some ⟨(w.heap.size + 1), 2, none⟩)) undef)).put (some 27) (cond gg10 (.agg #[.int .i64 n1, .int .i64 n2]) undef)).put (some 28) (cond gg11 (.slice (some ⟨x11, 0, none⟩) 1 1) undef)).put (some 29) (cond gg12 (.agg #[.int .i64 H1, .int .i64 H2, .int .i64 e1, .int .i64 e2]) undef)).put (some 30) (cond gg13 (.agg #[.int .i64 H1, .int .i64 H2]) undef)).put (some 7) (cond gg14 (.pointer (some ⟨x14, 0, none⟩)) undef)).put (some 8) (cond gg15 (.pointer (some ⟨x15, 0, none⟩)) undef) ∧ Blk w9 w.heap.size #[.int .i64 l1, .int .i64 l2, .int .i64 h1, .int .i64 h2] 30 ∧ Blk w9 (w.heap.size + 1) #[.int .i64 m1, .int .i64 m2, .int .i64 n1, .int .i64 n2] 30 ∧ Blk w9 (w.heap.size + 1 + 1) #[.int .i64 0, .int .i64 0, .int .i64 0, .int .i64 0] 30 ∧ Below w.heap.size w w9 ∧ (gg4 = true → Blk w9 x4 #[.int .i64 m1, .int .i64 m2] 23 ∧ (w.heap.size + 3) ≤ x4) ∧ (gg11 = true → Blk w9 x11 #[.int .i64 n1, .int .i64 n2] 23 ∧ (w.heap.size + 3) ≤ x11) ∧ (gg14 = true → Blk w9 x14 (cond gg16 #[.int .i64 L1, .int .i64 L2] #[.int .i64 0, .int .i64 0]) 23 ∧ (w.heap.size + 3) ≤ x14) ∧ (gg15 = true → Blk w9 x15 (cond gg17 #[.int .i64 H1, .int .i64 H2] #[.int .i64 0, .int .i64 0]) 23 ∧ (w.heap.size + 3) ≤ x15) ∧ (gg4 = true → gg14 = true → x4 ≠ x14) ∧ (gg4 = true → gg15 = true → x4 ≠ x15) ∧ (gg11 = true → gg14 = true → x11 ≠ x14) ∧ (gg11 = true → gg15 = true → x11 ≠ x15) ∧ (gg14 = true → gg15 = true → x14 ≠ x15) ∧ (gg16 = true → gg14 = true) ∧ (gg17 = true → gg15 = true)

set_option maxRecDepth 100000 in
set_option maxHeartbeats 8000000 in
set_option linter.unusedSimpArgs false in
theorem meet_walk (l1 l2 h1 h2 m1 m2 n1 n2 L1 L2 H1 H2 c1 c2 e1 e2 o A B C D E : Int) (w : World) (hd : (ckS2 l1 l2 h1 h2 m1 m2 n1 n2 != 0) = false)
    (HU : Hid (∀ B w, w.cell? ⟨B, 0, none⟩ = some (.int .i64 m1) → w.cell? ⟨B, 1, none⟩ = some (.int .i64 m2) → Calls Try.prog 93 #[.agg #[.int .i64 l1, .int .i64 l2], .slice (some ⟨B, 0, none⟩) 1 1] w fun e w' => e = .returned (.agg #[.int .i64 c1, .int .i64 c2, .int .i64 L1, .int .i64 L2]) ∧ Below w.heap.size w w'))
    (HV : Hid (∀ B w, w.cell? ⟨B, 0, none⟩ = some (.int .i64 n1) → w.cell? ⟨B, 1, none⟩ = some (.int .i64 n2) → Calls Try.prog 93 #[.agg #[.int .i64 h1, .int .i64 h2], .slice (some ⟨B, 0, none⟩) 1 1] w fun e w' => e = .returned (.agg #[.int .i64 H1, .int .i64 H2, .int .i64 e1, .int .i64 e2]) ∧ Below w.heap.size w w'))
    (HO : Hid (∀ w, Calls Try.prog 81 #[.agg #[.int .i64 L1, .int .i64 L2], .agg #[.int .i64 H1, .int .i64 H2]] w fun e w' => e = .returned (.int .i64 o) ∧ Below w.heap.size w w'))
    (hv : (0 < o ∧ A = 0 ∧ B = 0 ∧ C = 0 ∧ D = 0 ∧ E = 6) ∨ (¬ 0 < o ∧ A = L1 ∧ B = L2 ∧ C = H1 ∧ D = H2 ∧ E = 0)) :
    Calls Try.prog 64 #[.agg #[.int .i64 l1, .int .i64 l2, .int .i64 h1, .int .i64 h2], .agg #[.int .i64 m1, .int .i64 m2, .int .i64 n1, .int .i64 n2]] w fun e w' => e = .returned (.tuple #[.agg #[.int .i64 A, .int .i64 B, .int .i64 C, .int .i64 D], .int .i64 E]) ∧ Below w.heap.size w w' := by
  have i0 : ∀ w, (Instr.field 30 (.agg #[.int .i64 c1, .int .i64 c2, .int .i64 L1, .int .i64 L2]) 1).run Try.prog w = .ok (.agg #[.int .i64 L1, .int .i64 L2]) w := fun _ => by kernel_rfl
  have i1 : ∀ w, (Instr.field 30 (.agg #[.int .i64 H1, .int .i64 H2, .int .i64 e1, .int .i64 e2]) 0).run Try.prog w = .ok (.agg #[.int .i64 H1, .int .i64 H2]) w := fun _ => by kernel_rfl
  go_enter Try.func64, Try.ntmps64
  go_upto_region 4 with (first
    | (go_at_call 86; (with_reducible refine (checkSpans_2 l1 l2 h1 h2 m1 m2 n1 n2 _ _ (by simp [go_sem]) (by simp [go_sem]) (by simp [go_sem]) (by simp [go_sem]) (by simp [go_sem]) (by simp [go_sem]) (by simp [go_sem]) (by simp [go_sem])).mono ?_); rintro e w1 ⟨rfl, hb⟩; (first | ((with_reducible have k0 := Blk.later hb (Blk.alloc (Blk.alloc (Blk.alloc (Blk.new rfl))))); (with_reducible have k1 := Blk.later hb (Blk.alloc (Blk.alloc (Blk.new rfl)))); (with_reducible have k2 := Blk.later hb (Blk.alloc (Blk.new rfl))); (with_reducible have k3 := Blk.later hb (Blk.new rfl)); simp only [World.size_alloc] at k1 k2 k3; obtain ⟨a0, b0⟩ := k0.read; have zl := k0.lt; obtain ⟨a1, b1⟩ := k1.read; have zl := k1.lt; obtain ⟨a2, b2⟩ := k2.read; have zl := k2.lt; obtain ⟨a3, b3⟩ := k3.read; have zl := k3.lt) | ((try (have zk := k0.lt; (first | ((with_reducible refine Blk.keepG hb k0 (fun h => ?_) ?_); (focus ((repeat' (first | (with_reducible assumption) | ((with_reducible refine Blk.new ?_); first | rfl | (simp; done)) | (with_reducible refine Blk.later (by assumption) ?_) | (with_reducible refine Blk.alloc ?_) | (with_reducible refine Blk.drewN ?_) | (with_reducible refine Blk.drew ?_) | (with_reducible refine Blk.other ?_ (by first | omega | (simp; done) | (simp; omega))))); done)); clear k0; intro k0) | (with_reducible replace k0 := Blk.later hb (Blk.set (Blk.set k0))) | (with_reducible replace k0 := Blk.later hb (Blk.set k0))); clear a0 b0; obtain ⟨a0, b0⟩ := k0.read; have zl := k0.lt)); (try (have zk := k1.lt; (first | ((with_reducible refine Blk.keepG hb k1 (fun h => ?_) ?_); (focus ((repeat' (first | (with_reducible assumption) | ((with_reducible refine Blk.new ?_); first | rfl | (simp; done)) | (with_reducible refine Blk.later (by assumption) ?_) | (with_reducible refine Blk.alloc ?_) | (with_reducible refine Blk.drewN ?_) | (with_reducible refine Blk.drew ?_) | (with_reducible refine Blk.other ?_ (by first | omega | (simp; done) | (simp; omega))))); done)); clear k1; intro k1) | (with_reducible replace k1 := Blk.later hb (Blk.set (Blk.set k1))) | (with_reducible replace k1 := Blk.later hb (Blk.set k1))); clear a1 b1; obtain ⟨a1, b1⟩ := k1.read; have zl := k1.lt)); (try (have zk := k2.lt; (first | ((with_reducible refine Blk.keepG hb k2 (fun h => ?_) ?_); (focus ((repeat' (first | (with_reducible assumption) | ((with_reducible refine Blk.new ?_); first | rfl | (simp; done)) | (with_reducible refine Blk.later (by assumption) ?_) | (with_reducible refine Blk.alloc ?_) | (with_reducible refine Blk.drewN ?_) | (with_reducible refine Blk.drew ?_) | (with_reducible refine Blk.other ?_ (by first | omega | (simp; done) | (simp; omega))))); done)); clear k2; intro k2) | (with_reducible replace k2 := Blk.later hb (Blk.set (Blk.set k2))) | (with_reducible replace k2 := Blk.later hb (Blk.set k2))); clear a2 b2; obtain ⟨a2, b2⟩ := k2.read; have zl := k2.lt)); (try (have zk := k3.lt; (first | ((with_reducible refine Blk.keepG hb k3 (fun h => ?_) ?_); (focus ((repeat' (first | (with_reducible assumption) | ((with_reducible refine Blk.new ?_); first | rfl | (simp; done)) | (with_reducible refine Blk.later (by assumption) ?_) | (with_reducible refine Blk.alloc ?_) | (with_reducible refine Blk.drewN ?_) | (with_reducible refine Blk.drew ?_) | (with_reducible refine Blk.other ?_ (by first | omega | (simp; done) | (simp; omega))))); done)); clear k3; intro k3) | (with_reducible replace k3 := Blk.later hb (Blk.set (Blk.set k3))) | (with_reducible replace k3 := Blk.later hb (Blk.set k3))); clear a3 b3; obtain ⟨a3, b3⟩ := k3.read; have zl := k3.lt)); (try (have zk := k4.lt; (first | ((with_reducible refine Blk.keepG hb k4 (fun h => ?_) ?_); (focus ((repeat' (first | (with_reducible assumption) | ((with_reducible refine Blk.new ?_); first | rfl | (simp; done)) | (with_reducible refine Blk.later (by assumption) ?_) | (with_reducible refine Blk.alloc ?_) | (with_reducible refine Blk.drewN ?_) | (with_reducible refine Blk.drew ?_) | (with_reducible refine Blk.other ?_ (by first | omega | (simp; done) | (simp; omega))))); done)); clear k4; intro k4) | (with_reducible replace k4 := Blk.later hb (Blk.set (Blk.set k4))) | (with_reducible replace k4 := Blk.later hb (Blk.set k4))); clear a4 b4; obtain ⟨a4, b4⟩ := k4.read; have zl := k4.lt))))))
  go_cut [7, 8] (fun s7 s8 wx => At2 wx (w.heap.size + 3) #[.int .i64 L1, .int .i64 L2] #[.int .i64 H1, .int .i64 H2] 23 s7 s8 ∧ Blk wx (w.heap.size + 1 + 1) #[.int .i64 0, .int .i64 0, .int .i64 0, .int .i64 0] 30 ∧ Below w.heap.size w wx)
  case first =>
    clear k3 a3 b3 HO hv hd
    refine wp_region_inv (MeetI l1 l2 h1 h2 m1 m2 n1 n2 L1 L2 H1 H2 c1 c2 e1 e2 w) (by kernel_rfl) (by kernel_rfl) (fun L a w9 h => ?_) ?_ (fun L a w9 hI i hi => ?_) (fun a w9 hI => ?_)
    · obtain ⟨gg0, gg1, gg2, gg3, gg4, gg5, gg6, gg7, gg8, gg9, gg10, gg11, gg12, gg13, gg14, gg15, gg16, gg17, x4, x11, x14, x15, rfl, -⟩ := h; rfl
    · unfold MeetI
      refine ⟨false, false, false, false, false, false, false, false, false, false, false, false, false, false, false, false, false, false, 0, 0, 0, 0, rfl, by simp only [Act.put, List.setIfInBounds_toArray, List.set_cons_zero, List.set_cons_succ, cond_false], ?_, ?_, ?_, ?_, ?_, ?_, ?_, ?_, ?_, ?_, ?_, ?_, ?_, ?_, ?_⟩
      all_goals (first | (intro h; cases h; done) | ((repeat' (first | (with_reducible assumption) | ((with_reducible refine Blk.new ?_); first | rfl | (simp; done)) | (with_reducible refine Blk.later (by assumption) ?_) | (with_reducible refine Blk.alloc ?_) | (with_reducible refine Blk.drewN ?_) | (with_reducible refine Blk.drew ?_) | (with_reducible refine Blk.other ?_ (by first | omega | (simp; done) | (simp; omega))))); done) | ((repeat' (first | (with_reducible exact Below.refl _ _) | (with_reducible assumption) | (with_reducible refine belowThru ?_ (by assumption)) | (with_reducible refine belowAlloc ?_) | (with_reducible refine Below.setCell ?_ (by first | omega | (simp; done) | (simp; omega)) _) | (with_reducible refine Below.drew ?_) | (with_reducible refine below_drewN ?_ _))); done))
    · obtain ⟨gg0, gg1, gg2, gg3, gg4, gg5, gg6, gg7, gg8, gg9, gg10, gg11, gg12, gg13, gg14, gg15, gg16, gg17, x4, x11, x14, x15, rfl, rfl, fb0, fb1, fb2, fB, f4, f11, f14, f15, d4_14, d4_15, d11_14, d11_15, d14_15, s14, s15⟩ := hI
      obtain ⟨hi1, hi2, o, ho, hall⟩ := inv_mem hi
      clear hi
      rcases i with _ | _ | _ | _ | _ | _ | _ | _ | _ | _ | _ | _ | _ | _ | _ | _ | _ | _ | i
      · have ge0 : gg0 = false := hi2
        clear hall hi1 hi2
        subst ge0
        have ho2 := ho
        simp only [List.getElem?_toArray, List.getElem?_cons_zero, List.getElem?_cons_succ] at ho2
        have ho3 := Option.some.inj ho2; clear ho2; subst ho3
        obtain ⟨ba0, bb0⟩ := fb0.read; have bl0 := fb0.lt
        obtain ⟨ba1, bb1⟩ := fb1.read; have bl1 := fb1.lt
        obtain ⟨ba2, bb2⟩ := fb2.read; have bl2 := fb2.lt
        simp only [Act.put, List.setIfInBounds_toArray, List.set_cons_zero, List.set_cons_succ]
        simp only [cond_true, cond_false]
        refine inv_op ho (by kernel_rfl) (fun K hK => ?_)
        clear ho
        go_simp
        refine hK.out _ _ ?_
        unfold MeetI
        refine ⟨true, gg1, gg2, gg3, gg4, gg5, gg6, gg7, gg8, gg9, gg10, gg11, gg12, gg13, gg14, gg15, gg16, gg17, x4, x11, x14, x15, rfl, by simp only [Act.put, List.setIfInBounds_toArray, List.set_cons_zero, List.set_cons_succ, cond_true, cond_false], ?_, ?_, ?_, ?_, ?_, ?_, ?_, ?_, ?_, ?_, ?_, ?_, ?_, ?_, ?_⟩
        · (repeat' (first | (with_reducible assumption) | ((with_reducible refine Blk.new ?_); first | rfl | (simp; done)) | (with_reducible refine Blk.later (by assumption) ?_) | (with_reducible refine Blk.alloc ?_) | (with_reducible refine Blk.drewN ?_) | (with_reducible refine Blk.drew ?_) | (with_reducible refine Blk.other ?_ (by first | omega | (simp; done) | (simp; omega)))))
        · (repeat' (first | (with_reducible assumption) | ((with_reducible refine Blk.new ?_); first | rfl | (simp; done)) | (with_reducible refine Blk.later (by assumption) ?_) | (with_reducible refine Blk.alloc ?_) | (with_reducible refine Blk.drewN ?_) | (with_reducible refine Blk.drew ?_) | (with_reducible refine Blk.other ?_ (by first | omega | (simp; done) | (simp; omega)))))
        · (repeat' (first | (with_reducible assumption) | ((with_reducible refine Blk.new ?_); first | rfl | (simp; done)) | (with_reducible refine Blk.later (by assumption) ?_) | (with_reducible refine Blk.alloc ?_) | (with_reducible refine Blk.drewN ?_) | (with_reducible refine Blk.drew ?_) | (with_reducible refine Blk.other ?_ (by first | omega | (simp; done) | (simp; omega)))))
        · (repeat' (first | (with_reducible exact Below.refl _ _) | (with_reducible assumption) | (with_reducible refine belowThru ?_ (by assumption)) | (with_reducible refine belowAlloc ?_) | (with_reducible refine Below.setCell ?_ (by first | omega | (simp; done) | (simp; omega)) _) | (with_reducible refine Below.drew ?_) | (with_reducible refine below_drewN ?_ _)))
        · intro h; obtain ⟨p, q⟩ := f4 h; exact ⟨by (repeat' (first | (with_reducible assumption) | ((with_reducible refine Blk.new ?_); first | rfl | (simp; done)) | (with_reducible refine Blk.later (by assumption) ?_) | (with_reducible refine Blk.alloc ?_) | (with_reducible refine Blk.drewN ?_) | (with_reducible refine Blk.drew ?_) | (with_reducible refine Blk.other ?_ (by first | omega | (simp; done) | (simp; omega))))), q⟩
        · intro h; obtain ⟨p, q⟩ := f11 h; exact ⟨by (repeat' (first | (with_reducible assumption) | ((with_reducible refine Blk.new ?_); first | rfl | (simp; done)) | (with_reducible refine Blk.later (by assumption) ?_) | (with_reducible refine Blk.alloc ?_) | (with_reducible refine Blk.drewN ?_) | (with_reducible refine Blk.drew ?_) | (with_reducible refine Blk.other ?_ (by first | omega | (simp; done) | (simp; omega))))), q⟩
        · intro h; obtain ⟨p, q⟩ := f14 h; exact ⟨by (repeat' (first | (with_reducible assumption) | ((with_reducible refine Blk.new ?_); first | rfl | (simp; done)) | (with_reducible refine Blk.later (by assumption) ?_) | (with_reducible refine Blk.alloc ?_) | (with_reducible refine Blk.drewN ?_) | (with_reducible refine Blk.drew ?_) | (with_reducible refine Blk.other ?_ (by first | omega | (simp; done) | (simp; omega))))), q⟩
        · intro h; obtain ⟨p, q⟩ := f15 h; exact ⟨by (repeat' (first | (with_reducible assumption) | ((with_reducible refine Blk.new ?_); first | rfl | (simp; done)) | (with_reducible refine Blk.later (by assumption) ?_) | (with_reducible refine Blk.alloc ?_) | (with_reducible refine Blk.drewN ?_) | (with_reducible refine Blk.drew ?_) | (with_reducible refine Blk.other ?_ (by first | omega | (simp; done) | (simp; omega))))), q⟩
        · exact d4_14
        · exact d4_15
        · exact d11_14
        · exact d11_15
        · exact d14_15
        · exact s14
        · exact s15
      · have ge1 : gg1 = false := hi2
        have ge0 : gg0 = true := by cases ho; simp [Region.binds] at hall; simp_all
        clear hall hi1 hi2
        subst ge1 ge0
        have ho2 := ho
        simp only [List.getElem?_toArray, List.getElem?_cons_zero, List.getElem?_cons_succ] at ho2
        have ho3 := Option.some.inj ho2; clear ho2; subst ho3
        obtain ⟨ba0, bb0⟩ := fb0.read; have bl0 := fb0.lt
        obtain ⟨ba1, bb1⟩ := fb1.read; have bl1 := fb1.lt
        obtain ⟨ba2, bb2⟩ := fb2.read; have bl2 := fb2.lt
        simp only [Act.put, List.setIfInBounds_toArray, List.set_cons_zero, List.set_cons_succ]
        simp only [cond_true, cond_false]
        refine inv_op ho (by kernel_rfl) (fun K hK => ?_)
        clear ho
        go_simp
        refine hK.out _ _ ?_
        unfold MeetI
        refine ⟨true, true, gg2, gg3, gg4, gg5, gg6, gg7, gg8, gg9, gg10, gg11, gg12, gg13, gg14, gg15, gg16, gg17, x4, x11, x14, x15, rfl, by simp only [Act.put, List.setIfInBounds_toArray, List.set_cons_zero, List.set_cons_succ, cond_true, cond_false], ?_, ?_, ?_, ?_, ?_, ?_, ?_, ?_, ?_, ?_, ?_, ?_, ?_, ?_, ?_⟩
        · (repeat' (first | (with_reducible assumption) | ((with_reducible refine Blk.new ?_); first | rfl | (simp; done)) | (with_reducible refine Blk.later (by assumption) ?_) | (with_reducible refine Blk.alloc ?_) | (with_reducible refine Blk.drewN ?_) | (with_reducible refine Blk.drew ?_) | (with_reducible refine Blk.other ?_ (by first | omega | (simp; done) | (simp; omega)))))
        · (repeat' (first | (with_reducible assumption) | ((with_reducible refine Blk.new ?_); first | rfl | (simp; done)) | (with_reducible refine Blk.later (by assumption) ?_) | (with_reducible refine Blk.alloc ?_) | (with_reducible refine Blk.drewN ?_) | (with_reducible refine Blk.drew ?_) | (with_reducible refine Blk.other ?_ (by first | omega | (simp; done) | (simp; omega)))))
        · (repeat' (first | (with_reducible assumption) | ((with_reducible refine Blk.new ?_); first | rfl | (simp; done)) | (with_reducible refine Blk.later (by assumption) ?_) | (with_reducible refine Blk.alloc ?_) | (with_reducible refine Blk.drewN ?_) | (with_reducible refine Blk.drew ?_) | (with_reducible refine Blk.other ?_ (by first | omega | (simp; done) | (simp; omega)))))
        · (repeat' (first | (with_reducible exact Below.refl _ _) | (with_reducible assumption) | (with_reducible refine belowThru ?_ (by assumption)) | (with_reducible refine belowAlloc ?_) | (with_reducible refine Below.setCell ?_ (by first | omega | (simp; done) | (simp; omega)) _) | (with_reducible refine Below.drew ?_) | (with_reducible refine below_drewN ?_ _)))
        · intro h; obtain ⟨p, q⟩ := f4 h; exact ⟨by (repeat' (first | (with_reducible assumption) | ((with_reducible refine Blk.new ?_); first | rfl | (simp; done)) | (with_reducible refine Blk.later (by assumption) ?_) | (with_reducible refine Blk.alloc ?_) | (with_reducible refine Blk.drewN ?_) | (with_reducible refine Blk.drew ?_) | (with_reducible refine Blk.other ?_ (by first | omega | (simp; done) | (simp; omega))))), q⟩
        · intro h; obtain ⟨p, q⟩ := f11 h; exact ⟨by (repeat' (first | (with_reducible assumption) | ((with_reducible refine Blk.new ?_); first | rfl | (simp; done)) | (with_reducible refine Blk.later (by assumption) ?_) | (with_reducible refine Blk.alloc ?_) | (with_reducible refine Blk.drewN ?_) | (with_reducible refine Blk.drew ?_) | (with_reducible refine Blk.other ?_ (by first | omega | (simp; done) | (simp; omega))))), q⟩
        · intro h; obtain ⟨p, q⟩ := f14 h; exact ⟨by (repeat' (first | (with_reducible assumption) | ((with_reducible refine Blk.new ?_); first | rfl | (simp; done)) | (with_reducible refine Blk.later (by assumption) ?_) | (with_reducible refine Blk.alloc ?_) | (with_reducible refine Blk.drewN ?_) | (with_reducible refine Blk.drew ?_) | (with_reducible refine Blk.other ?_ (by first | omega | (simp; done) | (simp; omega))))), q⟩
        · intro h; obtain ⟨p, q⟩ := f15 h; exact ⟨by (repeat' (first | (with_reducible assumption) | ((with_reducible refine Blk.new ?_); first | rfl | (simp; done)) | (with_reducible refine Blk.later (by assumption) ?_) | (with_reducible refine Blk.alloc ?_) | (with_reducible refine Blk.drewN ?_) | (with_reducible refine Blk.drew ?_) | (with_reducible refine Blk.other ?_ (by first | omega | (simp; done) | (simp; omega))))), q⟩
        · exact d4_14
        · exact d4_15
        · exact d11_14
        · exact d11_15
        · exact d14_15
        · exact s14
        · exact s15
      · have ge2 : gg2 = false := hi2
        clear hall hi1 hi2
        subst ge2
        have ho2 := ho
        simp only [List.getElem?_toArray, List.getElem?_cons_zero, List.getElem?_cons_succ] at ho2
        have ho3 := Option.some.inj ho2; clear ho2; subst ho3
        obtain ⟨ba0, bb0⟩ := fb0.read; have bl0 := fb0.lt
        obtain ⟨ba1, bb1⟩ := fb1.read; have bl1 := fb1.lt
        obtain ⟨ba2, bb2⟩ := fb2.read; have bl2 := fb2.lt
        simp only [Act.put, List.setIfInBounds_toArray, List.set_cons_zero, List.set_cons_succ]
        simp only [cond_true, cond_false]
        refine inv_op ho (by kernel_rfl) (fun K hK => ?_)
        clear ho
        go_simp
        refine hK.out _ _ ?_
        unfold MeetI
        refine ⟨gg0, gg1, true, gg3, gg4, gg5, gg6, gg7, gg8, gg9, gg10, gg11, gg12, gg13, gg14, gg15, gg16, gg17, x4, x11, x14, x15, rfl, by simp only [Act.put, List.setIfInBounds_toArray, List.set_cons_zero, List.set_cons_succ, cond_true, cond_false], ?_, ?_, ?_, ?_, ?_, ?_, ?_, ?_, ?_, ?_, ?_, ?_, ?_, ?_, ?_⟩
        · (repeat' (first | (with_reducible assumption) | ((with_reducible refine Blk.new ?_); first | rfl | (simp; done)) | (with_reducible refine Blk.later (by assumption) ?_) | (with_reducible refine Blk.alloc ?_) | (with_reducible refine Blk.drewN ?_) | (with_reducible refine Blk.drew ?_) | (with_reducible refine Blk.other ?_ (by first | omega | (simp; done) | (simp; omega)))))
        · (repeat' (first | (with_reducible assumption) | ((with_reducible refine Blk.new ?_); first | rfl | (simp; done)) | (with_reducible refine Blk.later (by assumption) ?_) | (with_reducible refine Blk.alloc ?_) | (with_reducible refine Blk.drewN ?_) | (with_reducible refine Blk.drew ?_) | (with_reducible refine Blk.other ?_ (by first | omega | (simp; done) | (simp; omega)))))
        · (repeat' (first | (with_reducible assumption) | ((with_reducible refine Blk.new ?_); first | rfl | (simp; done)) | (with_reducible refine Blk.later (by assumption) ?_) | (with_reducible refine Blk.alloc ?_) | (with_reducible refine Blk.drewN ?_) | (with_reducible refine Blk.drew ?_) | (with_reducible refine Blk.other ?_ (by first | omega | (simp; done) | (simp; omega)))))
        · (repeat' (first | (with_reducible exact Below.refl _ _) | (with_reducible assumption) | (with_reducible refine belowThru ?_ (by assumption)) | (with_reducible refine belowAlloc ?_) | (with_reducible refine Below.setCell ?_ (by first | omega | (simp; done) | (simp; omega)) _) | (with_reducible refine Below.drew ?_) | (with_reducible refine below_drewN ?_ _)))
        · intro h; obtain ⟨p, q⟩ := f4 h; exact ⟨by (repeat' (first | (with_reducible assumption) | ((with_reducible refine Blk.new ?_); first | rfl | (simp; done)) | (with_reducible refine Blk.later (by assumption) ?_) | (with_reducible refine Blk.alloc ?_) | (with_reducible refine Blk.drewN ?_) | (with_reducible refine Blk.drew ?_) | (with_reducible refine Blk.other ?_ (by first | omega | (simp; done) | (simp; omega))))), q⟩
        · intro h; obtain ⟨p, q⟩ := f11 h; exact ⟨by (repeat' (first | (with_reducible assumption) | ((with_reducible refine Blk.new ?_); first | rfl | (simp; done)) | (with_reducible refine Blk.later (by assumption) ?_) | (with_reducible refine Blk.alloc ?_) | (with_reducible refine Blk.drewN ?_) | (with_reducible refine Blk.drew ?_) | (with_reducible refine Blk.other ?_ (by first | omega | (simp; done) | (simp; omega))))), q⟩
        · intro h; obtain ⟨p, q⟩ := f14 h; exact ⟨by (repeat' (first | (with_reducible assumption) | ((with_reducible refine Blk.new ?_); first | rfl | (simp; done)) | (with_reducible refine Blk.later (by assumption) ?_) | (with_reducible refine Blk.alloc ?_) | (with_reducible refine Blk.drewN ?_) | (with_reducible refine Blk.drew ?_) | (with_reducible refine Blk.other ?_ (by first | omega | (simp; done) | (simp; omega))))), q⟩
        · intro h; obtain ⟨p, q⟩ := f15 h; exact ⟨by (repeat' (first | (with_reducible assumption) | ((with_reducible refine Blk.new ?_); first | rfl | (simp; done)) | (with_reducible refine Blk.later (by assumption) ?_) | (with_reducible refine Blk.alloc ?_) | (with_reducible refine Blk.drewN ?_) | (with_reducible refine Blk.drew ?_) | (with_reducible refine Blk.other ?_ (by first | omega | (simp; done) | (simp; omega))))), q⟩
        · exact d4_14
        · exact d4_15
        · exact d11_14
        · exact d11_15
        · exact d14_15
        · exact s14
        · exact s15
      · have ge3 : gg3 = false := hi2
        have ge2 : gg2 = true := by cases ho; simp [Region.binds] at hall; simp_all
        clear hall hi1 hi2
        subst ge3 ge2
        have ho2 := ho
        simp only [List.getElem?_toArray, List.getElem?_cons_zero, List.getElem?_cons_succ] at ho2
        have ho3 := Option.some.inj ho2; clear ho2; subst ho3
        obtain ⟨ba0, bb0⟩ := fb0.read; have bl0 := fb0.lt
        obtain ⟨ba1, bb1⟩ := fb1.read; have bl1 := fb1.lt
        obtain ⟨ba2, bb2⟩ := fb2.read; have bl2 := fb2.lt
        simp only [Act.put, List.setIfInBounds_toArray, List.set_cons_zero, List.set_cons_succ]
        simp only [cond_true, cond_false]
        refine inv_op ho (by kernel_rfl) (fun K hK => ?_)
        clear ho
        go_simp
        refine hK.out _ _ ?_
        unfold MeetI
        refine ⟨gg0, gg1, true, true, gg4, gg5, gg6, gg7, gg8, gg9, gg10, gg11, gg12, gg13, gg14, gg15, gg16, gg17, x4, x11, x14, x15, rfl, by simp only [Act.put, List.setIfInBounds_toArray, List.set_cons_zero, List.set_cons_succ, cond_true, cond_false], ?_, ?_, ?_, ?_, ?_, ?_, ?_, ?_, ?_, ?_, ?_, ?_, ?_, ?_, ?_⟩
        · (repeat' (first | (with_reducible assumption) | ((with_reducible refine Blk.new ?_); first | rfl | (simp; done)) | (with_reducible refine Blk.later (by assumption) ?_) | (with_reducible refine Blk.alloc ?_) | (with_reducible refine Blk.drewN ?_) | (with_reducible refine Blk.drew ?_) | (with_reducible refine Blk.other ?_ (by first | omega | (simp; done) | (simp; omega)))))
        · (repeat' (first | (with_reducible assumption) | ((with_reducible refine Blk.new ?_); first | rfl | (simp; done)) | (with_reducible refine Blk.later (by assumption) ?_) | (with_reducible refine Blk.alloc ?_) | (with_reducible refine Blk.drewN ?_) | (with_reducible refine Blk.drew ?_) | (with_reducible refine Blk.other ?_ (by first | omega | (simp; done) | (simp; omega)))))
        · (repeat' (first | (with_reducible assumption) | ((with_reducible refine Blk.new ?_); first | rfl | (simp; done)) | (with_reducible refine Blk.later (by assumption) ?_) | (with_reducible refine Blk.alloc ?_) | (with_reducible refine Blk.drewN ?_) | (with_reducible refine Blk.drew ?_) | (with_reducible refine Blk.other ?_ (by first | omega | (simp; done) | (simp; omega)))))
        · (repeat' (first | (with_reducible exact Below.refl _ _) | (with_reducible assumption) | (with_reducible refine belowThru ?_ (by assumption)) | (with_reducible refine belowAlloc ?_) | (with_reducible refine Below.setCell ?_ (by first | omega | (simp; done) | (simp; omega)) _) | (with_reducible refine Below.drew ?_) | (with_reducible refine below_drewN ?_ _)))
        · intro h; obtain ⟨p, q⟩ := f4 h; exact ⟨by (repeat' (first | (with_reducible assumption) | ((with_reducible refine Blk.new ?_); first | rfl | (simp; done)) | (with_reducible refine Blk.later (by assumption) ?_) | (with_reducible refine Blk.alloc ?_) | (with_reducible refine Blk.drewN ?_) | (with_reducible refine Blk.drew ?_) | (with_reducible refine Blk.other ?_ (by first | omega | (simp; done) | (simp; omega))))), q⟩
        · intro h; obtain ⟨p, q⟩ := f11 h; exact ⟨by (repeat' (first | (with_reducible assumption) | ((with_reducible refine Blk.new ?_); first | rfl | (simp; done)) | (with_reducible refine Blk.later (by assumption) ?_) | (with_reducible refine Blk.alloc ?_) | (with_reducible refine Blk.drewN ?_) | (with_reducible refine Blk.drew ?_) | (with_reducible refine Blk.other ?_ (by first | omega | (simp; done) | (simp; omega))))), q⟩
        · intro h; obtain ⟨p, q⟩ := f14 h; exact ⟨by (repeat' (first | (with_reducible assumption) | ((with_reducible refine Blk.new ?_); first | rfl | (simp; done)) | (with_reducible refine Blk.later (by assumption) ?_) | (with_reducible refine Blk.alloc ?_) | (with_reducible refine Blk.drewN ?_) | (with_reducible refine Blk.drew ?_) | (with_reducible refine Blk.other ?_ (by first | omega | (simp; done) | (simp; omega))))), q⟩
        · intro h; obtain ⟨p, q⟩ := f15 h; exact ⟨by (repeat' (first | (with_reducible assumption) | ((with_reducible refine Blk.new ?_); first | rfl | (simp; done)) | (with_reducible refine Blk.later (by assumption) ?_) | (with_reducible refine Blk.alloc ?_) | (with_reducible refine Blk.drewN ?_) | (with_reducible refine Blk.drew ?_) | (with_reducible refine Blk.other ?_ (by first | omega | (simp; done) | (simp; omega))))), q⟩
        · exact d4_14
        · exact d4_15
        · exact d11_14
        · exact d11_15
        · exact d14_15
        · exact s14
        · exact s15
      · have ge4 : gg4 = false := hi2
        have ge3 : gg3 = true := by cases ho; simp [Region.binds] at hall; simp_all
        clear hall hi1 hi2
        subst ge4 ge3
        have ho2 := ho
        simp only [List.getElem?_toArray, List.getElem?_cons_zero, List.getElem?_cons_succ] at ho2
        have ho3 := Option.some.inj ho2; clear ho2; subst ho3
        obtain ⟨ba0, bb0⟩ := fb0.read; have bl0 := fb0.lt
        obtain ⟨ba1, bb1⟩ := fb1.read; have bl1 := fb1.lt
        obtain ⟨ba2, bb2⟩ := fb2.read; have bl2 := fb2.lt
        simp only [Act.put, List.setIfInBounds_toArray, List.set_cons_zero, List.set_cons_succ]
        simp only [cond_true, cond_false]
        refine inv_op ho (by kernel_rfl) (fun K hK => ?_)
        clear ho
        go_simp
        refine hK.out _ _ ?_
        unfold MeetI
        refine ⟨gg0, gg1, gg2, true, true, gg5, gg6, gg7, gg8, gg9, gg10, gg11, gg12, gg13, gg14, gg15, gg16, gg17, w9.heap.size, x11, x14, x15, rfl, by simp only [Act.put, List.setIfInBounds_toArray, List.set_cons_zero, List.set_cons_succ, cond_true, cond_false], ?_, ?_, ?_, ?_, ?_, ?_, ?_, ?_, ?_, ?_, ?_, ?_, ?_, ?_, ?_⟩
        · (repeat' (first | (with_reducible assumption) | ((with_reducible refine Blk.new ?_); first | rfl | (simp; done)) | (with_reducible refine Blk.later (by assumption) ?_) | (with_reducible refine Blk.alloc ?_) | (with_reducible refine Blk.drewN ?_) | (with_reducible refine Blk.drew ?_) | (with_reducible refine Blk.other ?_ (by first | omega | (simp; done) | (simp; omega)))))
        · (repeat' (first | (with_reducible assumption) | ((with_reducible refine Blk.new ?_); first | rfl | (simp; done)) | (with_reducible refine Blk.later (by assumption) ?_) | (with_reducible refine Blk.alloc ?_) | (with_reducible refine Blk.drewN ?_) | (with_reducible refine Blk.drew ?_) | (with_reducible refine Blk.other ?_ (by first | omega | (simp; done) | (simp; omega)))))
        · (repeat' (first | (with_reducible assumption) | ((with_reducible refine Blk.new ?_); first | rfl | (simp; done)) | (with_reducible refine Blk.later (by assumption) ?_) | (with_reducible refine Blk.alloc ?_) | (with_reducible refine Blk.drewN ?_) | (with_reducible refine Blk.drew ?_) | (with_reducible refine Blk.other ?_ (by first | omega | (simp; done) | (simp; omega)))))
        · (repeat' (first | (with_reducible exact Below.refl _ _) | (with_reducible assumption) | (with_reducible refine belowThru ?_ (by assumption)) | (with_reducible refine belowAlloc ?_) | (with_reducible refine Below.setCell ?_ (by first | omega | (simp; done) | (simp; omega)) _) | (with_reducible refine Below.drew ?_) | (with_reducible refine below_drewN ?_ _)))
        · intro _; exact ⟨Blk.new rfl, by have := fB.size; omega⟩
        · intro h; obtain ⟨p, q⟩ := f11 h; exact ⟨by (repeat' (first | (with_reducible assumption) | ((with_reducible refine Blk.new ?_); first | rfl | (simp; done)) | (with_reducible refine Blk.later (by assumption) ?_) | (with_reducible refine Blk.alloc ?_) | (with_reducible refine Blk.drewN ?_) | (with_reducible refine Blk.drew ?_) | (with_reducible refine Blk.other ?_ (by first | omega | (simp; done) | (simp; omega))))), q⟩
        · intro h; obtain ⟨p, q⟩ := f14 h; exact ⟨by (repeat' (first | (with_reducible assumption) | ((with_reducible refine Blk.new ?_); first | rfl | (simp; done)) | (with_reducible refine Blk.later (by assumption) ?_) | (with_reducible refine Blk.alloc ?_) | (with_reducible refine Blk.drewN ?_) | (with_reducible refine Blk.drew ?_) | (with_reducible refine Blk.other ?_ (by first | omega | (simp; done) | (simp; omega))))), q⟩
        · intro h; obtain ⟨p, q⟩ := f15 h; exact ⟨by (repeat' (first | (with_reducible assumption) | ((with_reducible refine Blk.new ?_); first | rfl | (simp; done)) | (with_reducible refine Blk.later (by assumption) ?_) | (with_reducible refine Blk.alloc ?_) | (with_reducible refine Blk.drewN ?_) | (with_reducible refine Blk.drew ?_) | (with_reducible refine Blk.other ?_ (by first | omega | (simp; done) | (simp; omega))))), q⟩
        · intro _ h; have := (f14 h).1.lt; omega
        · intro _ h; have := (f15 h).1.lt; omega
        · exact d11_14
        · exact d11_15
        · exact d14_15
        · exact s14
        · exact s15
      · have ge5 : gg5 = false := hi2
        have ge1 : gg1 = true := by cases ho; simp [Region.binds] at hall; simp_all
        have ge4 : gg4 = true := by cases ho; simp [Region.binds] at hall; simp_all
        clear hall hi1 hi2
        subst ge5 ge1 ge4
        have ho2 := ho
        simp only [List.getElem?_toArray, List.getElem?_cons_zero, List.getElem?_cons_succ] at ho2
        have ho3 := Option.some.inj ho2; clear ho2; subst ho3
        obtain ⟨p4, q4⟩ := f4 rfl
        obtain ⟨ra4, rb4⟩ := p4.read
        have rl4 := p4.lt
        obtain ⟨ba0, bb0⟩ := fb0.read; have bl0 := fb0.lt
        obtain ⟨ba1, bb1⟩ := fb1.read; have bl1 := fb1.lt
        obtain ⟨ba2, bb2⟩ := fb2.read; have bl2 := fb2.lt
        simp only [Act.put, List.setIfInBounds_toArray, List.set_cons_zero, List.set_cons_succ]
        simp only [cond_true, cond_false]
        refine inv_op ho (by kernel_rfl) (fun K hK => ?_)
        clear ho
        go_simp
        go_at_call 93; (with_reducible refine (HU.out _ _ (by simp [ra4]) (by simp [ra4])).mono ?_); rintro e w1 ⟨rfl, hb⟩
        refine hK.out _ _ ?_
        unfold MeetI
        refine ⟨gg0, true, gg2, gg3, true, true, gg6, gg7, gg8, gg9, gg10, gg11, gg12, gg13, gg14, gg15, gg16, gg17, x4, x11, x14, x15, rfl, by simp only [Act.put, List.setIfInBounds_toArray, List.set_cons_zero, List.set_cons_succ, cond_true, cond_false], ?_, ?_, ?_, ?_, ?_, ?_, ?_, ?_, ?_, ?_, ?_, ?_, ?_, ?_, ?_⟩
        · (repeat' (first | (with_reducible assumption) | ((with_reducible refine Blk.new ?_); first | rfl | (simp; done)) | (with_reducible refine Blk.later (by assumption) ?_) | (with_reducible refine Blk.alloc ?_) | (with_reducible refine Blk.drewN ?_) | (with_reducible refine Blk.drew ?_) | (with_reducible refine Blk.other ?_ (by first | omega | (simp; done) | (simp; omega)))))
        · (repeat' (first | (with_reducible assumption) | ((with_reducible refine Blk.new ?_); first | rfl | (simp; done)) | (with_reducible refine Blk.later (by assumption) ?_) | (with_reducible refine Blk.alloc ?_) | (with_reducible refine Blk.drewN ?_) | (with_reducible refine Blk.drew ?_) | (with_reducible refine Blk.other ?_ (by first | omega | (simp; done) | (simp; omega)))))
        · (repeat' (first | (with_reducible assumption) | ((with_reducible refine Blk.new ?_); first | rfl | (simp; done)) | (with_reducible refine Blk.later (by assumption) ?_) | (with_reducible refine Blk.alloc ?_) | (with_reducible refine Blk.drewN ?_) | (with_reducible refine Blk.drew ?_) | (with_reducible refine Blk.other ?_ (by first | omega | (simp; done) | (simp; omega)))))
        · (repeat' (first | (with_reducible exact Below.refl _ _) | (with_reducible assumption) | (with_reducible refine belowThru ?_ (by assumption)) | (with_reducible refine belowAlloc ?_) | (with_reducible refine Below.setCell ?_ (by first | omega | (simp; done) | (simp; omega)) _) | (with_reducible refine Below.drew ?_) | (with_reducible refine below_drewN ?_ _)))
        · intro h; obtain ⟨p, q⟩ := f4 h; exact ⟨by (repeat' (first | (with_reducible assumption) | ((with_reducible refine Blk.new ?_); first | rfl | (simp; done)) | (with_reducible refine Blk.later (by assumption) ?_) | (with_reducible refine Blk.alloc ?_) | (with_reducible refine Blk.drewN ?_) | (with_reducible refine Blk.drew ?_) | (with_reducible refine Blk.other ?_ (by first | omega | (simp; done) | (simp; omega))))), q⟩
        · intro h; obtain ⟨p, q⟩ := f11 h; exact ⟨by (repeat' (first | (with_reducible assumption) | ((with_reducible refine Blk.new ?_); first | rfl | (simp; done)) | (with_reducible refine Blk.later (by assumption) ?_) | (with_reducible refine Blk.alloc ?_) | (with_reducible refine Blk.drewN ?_) | (with_reducible refine Blk.drew ?_) | (with_reducible refine Blk.other ?_ (by first | omega | (simp; done) | (simp; omega))))), q⟩
        · intro h; obtain ⟨p, q⟩ := f14 h; exact ⟨by (repeat' (first | (with_reducible assumption) | ((with_reducible refine Blk.new ?_); first | rfl | (simp; done)) | (with_reducible refine Blk.later (by assumption) ?_) | (with_reducible refine Blk.alloc ?_) | (with_reducible refine Blk.drewN ?_) | (with_reducible refine Blk.drew ?_) | (with_reducible refine Blk.other ?_ (by first | omega | (simp; done) | (simp; omega))))), q⟩
        · intro h; obtain ⟨p, q⟩ := f15 h; exact ⟨by (repeat' (first | (with_reducible assumption) | ((with_reducible refine Blk.new ?_); first | rfl | (simp; done)) | (with_reducible refine Blk.later (by assumption) ?_) | (with_reducible refine Blk.alloc ?_) | (with_reducible refine Blk.drewN ?_) | (with_reducible refine Blk.drew ?_) | (with_reducible refine Blk.other ?_ (by first | omega | (simp; done) | (simp; omega))))), q⟩
        · exact d4_14
        · exact d4_15
        · exact d11_14
        · exact d11_15
        · exact d14_15
        · exact s14
        · exact s15
      · have ge6 : gg6 = false := hi2
        have ge5 : gg5 = true := by cases ho; simp [Region.binds] at hall; simp_all
        clear hall hi1 hi2
        subst ge6 ge5
        have ho2 := ho
        simp only [List.getElem?_toArray, List.getElem?_cons_zero, List.getElem?_cons_succ] at ho2
        have ho3 := Option.some.inj ho2; clear ho2; subst ho3
        obtain ⟨ba0, bb0⟩ := fb0.read; have bl0 := fb0.lt
        obtain ⟨ba1, bb1⟩ := fb1.read; have bl1 := fb1.lt
        obtain ⟨ba2, bb2⟩ := fb2.read; have bl2 := fb2.lt
        simp only [Act.put, List.setIfInBounds_toArray, List.set_cons_zero, List.set_cons_succ]
        simp only [cond_true, cond_false]
        refine inv_op ho (by kernel_rfl) (fun K hK => ?_)
        clear ho
        go_simp
        refine hK.out _ _ ?_
        unfold MeetI
        refine ⟨gg0, gg1, gg2, gg3, gg4, true, true, gg7, gg8, gg9, gg10, gg11, gg12, gg13, gg14, gg15, gg16, gg17, x4, x11, x14, x15, rfl, by simp only [Act.put, List.setIfInBounds_toArray, List.set_cons_zero, List.set_cons_succ, cond_true, cond_false], ?_, ?_, ?_, ?_, ?_, ?_, ?_, ?_, ?_, ?_, ?_, ?_, ?_, ?_, ?_⟩
        · (repeat' (first | (with_reducible assumption) | ((with_reducible refine Blk.new ?_); first | rfl | (simp; done)) | (with_reducible refine Blk.later (by assumption) ?_) | (with_reducible refine Blk.alloc ?_) | (with_reducible refine Blk.drewN ?_) | (with_reducible refine Blk.drew ?_) | (with_reducible refine Blk.other ?_ (by first | omega | (simp; done) | (simp; omega)))))
        · (repeat' (first | (with_reducible assumption) | ((with_reducible refine Blk.new ?_); first | rfl | (simp; done)) | (with_reducible refine Blk.later (by assumption) ?_) | (with_reducible refine Blk.alloc ?_) | (with_reducible refine Blk.drewN ?_) | (with_reducible refine Blk.drew ?_) | (with_reducible refine Blk.other ?_ (by first | omega | (simp; done) | (simp; omega)))))
        · (repeat' (first | (with_reducible assumption) | ((with_reducible refine Blk.new ?_); first | rfl | (simp; done)) | (with_reducible refine Blk.later (by assumption) ?_) | (with_reducible refine Blk.alloc ?_) | (with_reducible refine Blk.drewN ?_) | (with_reducible refine Blk.drew ?_) | (with_reducible refine Blk.other ?_ (by first | omega | (simp; done) | (simp; omega)))))
        · (repeat' (first | (with_reducible exact Below.refl _ _) | (with_reducible assumption) | (with_reducible refine belowThru ?_ (by assumption)) | (with_reducible refine belowAlloc ?_) | (with_reducible refine Below.setCell ?_ (by first | omega | (simp; done) | (simp; omega)) _) | (with_reducible refine Below.drew ?_) | (with_reducible refine below_drewN ?_ _)))
        · intro h; obtain ⟨p, q⟩ := f4 h; exact ⟨by (repeat' (first | (with_reducible assumption) | ((with_reducible refine Blk.new ?_); first | rfl | (simp; done)) | (with_reducible refine Blk.later (by assumption) ?_) | (with_reducible refine Blk.alloc ?_) | (with_reducible refine Blk.drewN ?_) | (with_reducible refine Blk.drew ?_) | (with_reducible refine Blk.other ?_ (by first | omega | (simp; done) | (simp; omega))))), q⟩
        · intro h; obtain ⟨p, q⟩ := f11 h; exact ⟨by (repeat' (first | (with_reducible assumption) | ((with_reducible refine Blk.new ?_); first | rfl | (simp; done)) | (with_reducible refine Blk.later (by assumption) ?_) | (with_reducible refine Blk.alloc ?_) | (with_reducible refine Blk.drewN ?_) | (with_reducible refine Blk.drew ?_) | (with_reducible refine Blk.other ?_ (by first | omega | (simp; done) | (simp; omega))))), q⟩
        · intro h; obtain ⟨p, q⟩ := f14 h; exact ⟨by (repeat' (first | (with_reducible assumption) | ((with_reducible refine Blk.new ?_); first | rfl | (simp; done)) | (with_reducible refine Blk.later (by assumption) ?_) | (with_reducible refine Blk.alloc ?_) | (with_reducible refine Blk.drewN ?_) | (with_reducible refine Blk.drew ?_) | (with_reducible refine Blk.other ?_ (by first | omega | (simp; done) | (simp; omega))))), q⟩
        · intro h; obtain ⟨p, q⟩ := f15 h; exact ⟨by (repeat' (first | (with_reducible assumption) | ((with_reducible refine Blk.new ?_); first | rfl | (simp; done)) | (with_reducible refine Blk.later (by assumption) ?_) | (with_reducible refine Blk.alloc ?_) | (with_reducible refine Blk.drewN ?_) | (with_reducible refine Blk.drew ?_) | (with_reducible refine Blk.other ?_ (by first | omega | (simp; done) | (simp; omega))))), q⟩
        · exact d4_14
        · exact d4_15
        · exact d11_14
        · exact d11_15
        · exact d14_15
        · exact s14
        · exact s15
      · have ge7 : gg7 = false := hi2
        clear hall hi1 hi2
        subst ge7
        have ho2 := ho
        simp only [List.getElem?_toArray, List.getElem?_cons_zero, List.getElem?_cons_succ] at ho2
        have ho3 := Option.some.inj ho2; clear ho2; subst ho3
        obtain ⟨ba0, bb0⟩ := fb0.read; have bl0 := fb0.lt
        obtain ⟨ba1, bb1⟩ := fb1.read; have bl1 := fb1.lt
        obtain ⟨ba2, bb2⟩ := fb2.read; have bl2 := fb2.lt
        simp only [Act.put, List.setIfInBounds_toArray, List.set_cons_zero, List.set_cons_succ]
        simp only [cond_true, cond_false]
        refine inv_op ho (by kernel_rfl) (fun K hK => ?_)
        clear ho
        go_simp
        refine hK.out _ _ ?_
        unfold MeetI
        refine ⟨gg0, gg1, gg2, gg3, gg4, gg5, gg6, true, gg8, gg9, gg10, gg11, gg12, gg13, gg14, gg15, gg16, gg17, x4, x11, x14, x15, rfl, by simp only [Act.put, List.setIfInBounds_toArray, List.set_cons_zero, List.set_cons_succ, cond_true, cond_false], ?_, ?_, ?_, ?_, ?_, ?_, ?_, ?_, ?_, ?_, ?_, ?_, ?_, ?_, ?_⟩
        · (repeat' (first | (with_reducible assumption) | ((with_reducible refine Blk.new ?_); first | rfl | (simp; done)) | (with_reducible refine Blk.later (by assumption) ?_) | (with_reducible refine Blk.alloc ?_) | (with_reducible refine Blk.drewN ?_) | (with_reducible refine Blk.drew ?_) | (with_reducible refine Blk.other ?_ (by first | omega | (simp; done) | (simp; omega)))))
        · (repeat' (first | (with_reducible assumption) | ((with_reducible refine Blk.new ?_); first | rfl | (simp; done)) | (with_reducible refine Blk.later (by assumption) ?_) | (with_reducible refine Blk.alloc ?_) | (with_reducible refine Blk.drewN ?_) | (with_reducible refine Blk.drew ?_) | (with_reducible refine Blk.other ?_ (by first | omega | (simp; done) | (simp; omega)))))
        · (repeat' (first | (with_reducible assumption) | ((with_reducible refine Blk.new ?_); first | rfl | (simp; done)) | (with_reducible refine Blk.later (by assumption) ?_) | (with_reducible refine Blk.alloc ?_) | (with_reducible refine Blk.drewN ?_) | (with_reducible refine Blk.drew ?_) | (with_reducible refine Blk.other ?_ (by first | omega | (simp; done) | (simp; omega)))))
        · (repeat' (first | (with_reducible exact Below.refl _ _) | (with_reducible assumption) | (with_reducible refine belowThru ?_ (by assumption)) | (with_reducible refine belowAlloc ?_) | (with_reducible refine Below.setCell ?_ (by first | omega | (simp; done) | (simp; omega)) _) | (with_reducible refine Below.drew ?_) | (with_reducible refine below_drewN ?_ _)))
        · intro h; obtain ⟨p, q⟩ := f4 h; exact ⟨by (repeat' (first | (with_reducible assumption) | ((with_reducible refine Blk.new ?_); first | rfl | (simp; done)) | (with_reducible refine Blk.later (by assumption) ?_) | (with_reducible refine Blk.alloc ?_) | (with_reducible refine Blk.drewN ?_) | (with_reducible refine Blk.drew ?_) | (with_reducible refine Blk.other ?_ (by first | omega | (simp; done) | (simp; omega))))), q⟩
        · intro h; obtain ⟨p, q⟩ := f11 h; exact ⟨by (repeat' (first | (with_reducible assumption) | ((with_reducible refine Blk.new ?_); first | rfl | (simp; done)) | (with_reducible refine Blk.later (by assumption) ?_) | (with_reducible refine Blk.alloc ?_) | (with_reducible refine Blk.drewN ?_) | (with_reducible refine Blk.drew ?_) | (with_reducible refine Blk.other ?_ (by first | omega | (simp; done) | (simp; omega))))), q⟩
        · intro h; obtain ⟨p, q⟩ := f14 h; exact ⟨by (repeat' (first | (with_reducible assumption) | ((with_reducible refine Blk.new ?_); first | rfl | (simp; done)) | (with_reducible refine Blk.later (by assumption) ?_) | (with_reducible refine Blk.alloc ?_) | (with_reducible refine Blk.drewN ?_) | (with_reducible refine Blk.drew ?_) | (with_reducible refine Blk.other ?_ (by first | omega | (simp; done) | (simp; omega))))), q⟩
        · intro h; obtain ⟨p, q⟩ := f15 h; exact ⟨by (repeat' (first | (with_reducible assumption) | ((with_reducible refine Blk.new ?_); first | rfl | (simp; done)) | (with_reducible refine Blk.later (by assumption) ?_) | (with_reducible refine Blk.alloc ?_) | (with_reducible refine Blk.drewN ?_) | (with_reducible refine Blk.drew ?_) | (with_reducible refine Blk.other ?_ (by first | omega | (simp; done) | (simp; omega))))), q⟩
        · exact d4_14
        · exact d4_15
        · exact d11_14
        · exact d11_15
        · exact d14_15
        · exact s14
        · exact s15
      · have ge8 : gg8 = false := hi2
        have ge7 : gg7 = true := by cases ho; simp [Region.binds] at hall; simp_all
        clear hall hi1 hi2
        subst ge8 ge7
        have ho2 := ho
        simp only [List.getElem?_toArray, List.getElem?_cons_zero, List.getElem?_cons_succ] at ho2
        have ho3 := Option.some.inj ho2; clear ho2; subst ho3
        obtain ⟨ba0, bb0⟩ := fb0.read; have bl0 := fb0.lt
        obtain ⟨ba1, bb1⟩ := fb1.read; have bl1 := fb1.lt
        obtain ⟨ba2, bb2⟩ := fb2.read; have bl2 := fb2.lt
        simp only [Act.put, List.setIfInBounds_toArray, List.set_cons_zero, List.set_cons_succ]
        simp only [cond_true, cond_false]
        refine inv_op ho (by kernel_rfl) (fun K hK => ?_)
        clear ho
        go_simp
        refine hK.out _ _ ?_
        unfold MeetI
        refine ⟨gg0, gg1, gg2, gg3, gg4, gg5, gg6, true, true, gg9, gg10, gg11, gg12, gg13, gg14, gg15, gg16, gg17, x4, x11, x14, x15, rfl, by simp only [Act.put, List.setIfInBounds_toArray, List.set_cons_zero, List.set_cons_succ, cond_true, cond_false], ?_, ?_, ?_, ?_, ?_, ?_, ?_, ?_, ?_, ?_, ?_, ?_, ?_, ?_, ?_⟩
        · (repeat' (first | (with_reducible assumption) | ((with_reducible refine Blk.new ?_); first | rfl | (simp; done)) | (with_reducible refine Blk.later (by assumption) ?_) | (with_reducible refine Blk.alloc ?_) | (with_reducible refine Blk.drewN ?_) | (with_reducible refine Blk.drew ?_) | (with_reducible refine Blk.other ?_ (by first | omega | (simp; done) | (simp; omega)))))
        · (repeat' (first | (with_reducible assumption) | ((with_reducible refine Blk.new ?_); first | rfl | (simp; done)) | (with_reducible refine Blk.later (by assumption) ?_) | (with_reducible refine Blk.alloc ?_) | (with_reducible refine Blk.drewN ?_) | (with_reducible refine Blk.drew ?_) | (with_reducible refine Blk.other ?_ (by first | omega | (simp; done) | (simp; omega)))))
        · (repeat' (first | (with_reducible assumption) | ((with_reducible refine Blk.new ?_); first | rfl | (simp; done)) | (with_reducible refine Blk.later (by assumption) ?_) | (with_reducible refine Blk.alloc ?_) | (with_reducible refine Blk.drewN ?_) | (with_reducible refine Blk.drew ?_) | (with_reducible refine Blk.other ?_ (by first | omega | (simp; done) | (simp; omega)))))
        · (repeat' (first | (with_reducible exact Below.refl _ _) | (with_reducible assumption) | (with_reducible refine belowThru ?_ (by assumption)) | (with_reducible refine belowAlloc ?_) | (with_reducible refine Below.setCell ?_ (by first | omega | (simp; done) | (simp; omega)) _) | (with_reducible refine Below.drew ?_) | (with_reducible refine below_drewN ?_ _)))
        · intro h; obtain ⟨p, q⟩ := f4 h; exact ⟨by (repeat' (first | (with_reducible assumption) | ((with_reducible refine Blk.new ?_); first | rfl | (simp; done)) | (with_reducible refine Blk.later (by assumption) ?_) | (with_reducible refine Blk.alloc ?_) | (with_reducible refine Blk.drewN ?_) | (with_reducible refine Blk.drew ?_) | (with_reducible refine Blk.other ?_ (by first | omega | (simp; done) | (simp; omega))))), q⟩
        · intro h; obtain ⟨p, q⟩ := f11 h; exact ⟨by (repeat' (first | (with_reducible assumption) | ((with_reducible refine Blk.new ?_); first | rfl | (simp; done)) | (with_reducible refine Blk.later (by assumption) ?_) | (with_reducible refine Blk.alloc ?_) | (with_reducible refine Blk.drewN ?_) | (with_reducible refine Blk.drew ?_) | (with_reducible refine Blk.other ?_ (by first | omega | (simp; done) | (simp; omega))))), q⟩
        · intro h; obtain ⟨p, q⟩ := f14 h; exact ⟨by (repeat' (first | (with_reducible assumption) | ((with_reducible refine Blk.new ?_); first | rfl | (simp; done)) | (with_reducible refine Blk.later (by assumption) ?_) | (with_reducible refine Blk.alloc ?_) | (with_reducible refine Blk.drewN ?_) | (with_reducible refine Blk.drew ?_) | (with_reducible refine Blk.other ?_ (by first | omega | (simp; done) | (simp; omega))))), q⟩
        · intro h; obtain ⟨p, q⟩ := f15 h; exact ⟨by (repeat' (first | (with_reducible assumption) | ((with_reducible refine Blk.new ?_); first | rfl | (simp; done)) | (with_reducible refine Blk.later (by assumption) ?_) | (with_reducible refine Blk.alloc ?_) | (with_reducible refine Blk.drewN ?_) | (with_reducible refine Blk.drew ?_) | (with_reducible refine Blk.other ?_ (by first | omega | (simp; done) | (simp; omega))))), q⟩
        · exact d4_14
        · exact d4_15
        · exact d11_14
        · exact d11_15
        · exact d14_15
        · exact s14
        · exact s15
      · have ge9 : gg9 = false := hi2
        clear hall hi1 hi2
        subst ge9
        have ho2 := ho
        simp only [List.getElem?_toArray, List.getElem?_cons_zero, List.getElem?_cons_succ] at ho2
        have ho3 := Option.some.inj ho2; clear ho2; subst ho3
        obtain ⟨ba0, bb0⟩ := fb0.read; have bl0 := fb0.lt
        obtain ⟨ba1, bb1⟩ := fb1.read; have bl1 := fb1.lt
        obtain ⟨ba2, bb2⟩ := fb2.read; have bl2 := fb2.lt
        simp only [Act.put, List.setIfInBounds_toArray, List.set_cons_zero, List.set_cons_succ]
        simp only [cond_true, cond_false]
        refine inv_op ho (by kernel_rfl) (fun K hK => ?_)
        clear ho
        go_simp
        refine hK.out _ _ ?_
        unfold MeetI
        refine ⟨gg0, gg1, gg2, gg3, gg4, gg5, gg6, gg7, gg8, true, gg10, gg11, gg12, gg13, gg14, gg15, gg16, gg17, x4, x11, x14, x15, rfl, by simp only [Act.put, List.setIfInBounds_toArray, List.set_cons_zero, List.set_cons_succ, cond_true, cond_false], ?_, ?_, ?_, ?_, ?_, ?_, ?_, ?_, ?_, ?_, ?_, ?_, ?_, ?_, ?_⟩
        · (repeat' (first | (with_reducible assumption) | ((with_reducible refine Blk.new ?_); first | rfl | (simp; done)) | (with_reducible refine Blk.later (by assumption) ?_) | (with_reducible refine Blk.alloc ?_) | (with_reducible refine Blk.drewN ?_) | (with_reducible refine Blk.drew ?_) | (with_reducible refine Blk.other ?_ (by first | omega | (simp; done) | (simp; omega)))))
        · (repeat' (first | (with_reducible assumption) | ((with_reducible refine Blk.new ?_); first | rfl | (simp; done)) | (with_reducible refine Blk.later (by assumption) ?_) | (with_reducible refine Blk.alloc ?_) | (with_reducible refine Blk.drewN ?_) | (with_reducible refine Blk.drew ?_) | (with_reducible refine Blk.other ?_ (by first | omega | (simp; done) | (simp; omega)))))
        · (repeat' (first | (with_reducible assumption) | ((with_reducible refine Blk.new ?_); first | rfl | (simp; done)) | (with_reducible refine Blk.later (by assumption) ?_) | (with_reducible refine Blk.alloc ?_) | (with_reducible refine Blk.drewN ?_) | (with_reducible refine Blk.drew ?_) | (with_reducible refine Blk.other ?_ (by first | omega | (simp; done) | (simp; omega)))))
        · (repeat' (first | (with_reducible exact Below.refl _ _) | (with_reducible assumption) | (with_reducible refine belowThru ?_ (by assumption)) | (with_reducible refine belowAlloc ?_) | (with_reducible refine Below.setCell ?_ (by first | omega | (simp; done) | (simp; omega)) _) | (with_reducible refine Below.drew ?_) | (with_reducible refine below_drewN ?_ _)))
        · intro h; obtain ⟨p, q⟩ := f4 h; exact ⟨by (repeat' (first | (with_reducible assumption) | ((with_reducible refine Blk.new ?_); first | rfl | (simp; done)) | (with_reducible refine Blk.later (by assumption) ?_) | (with_reducible refine Blk.alloc ?_) | (with_reducible refine Blk.drewN ?_) | (with_reducible refine Blk.drew ?_) | (with_reducible refine Blk.other ?_ (by first | omega | (simp; done) | (simp; omega))))), q⟩
        · intro h; obtain ⟨p, q⟩ := f11 h; exact ⟨by (repeat' (first | (with_reducible assumption) | ((with_reducible refine Blk.new ?_); first | rfl | (simp; done)) | (with_reducible refine Blk.later (by assumption) ?_) | (with_reducible refine Blk.alloc ?_) | (with_reducible refine Blk.drewN ?_) | (with_reducible refine Blk.drew ?_) | (with_reducible refine Blk.other ?_ (by first | omega | (simp; done) | (simp; omega))))), q⟩
        · intro h; obtain ⟨p, q⟩ := f14 h; exact ⟨by (repeat' (first | (with_reducible assumption) | ((with_reducible refine Blk.new ?_); first | rfl | (simp; done)) | (with_reducible refine Blk.later (by assumption) ?_) | (with_reducible refine Blk.alloc ?_) | (with_reducible refine Blk.drewN ?_) | (with_reducible refine Blk.drew ?_) | (with_reducible refine Blk.other ?_ (by first | omega | (simp; done) | (simp; omega))))), q⟩
        · intro h; obtain ⟨p, q⟩ := f15 h; exact ⟨by (repeat' (first | (with_reducible assumption) | ((with_reducible refine Blk.new ?_); first | rfl | (simp; done)) | (with_reducible refine Blk.later (by assumption) ?_) | (with_reducible refine Blk.alloc ?_) | (with_reducible refine Blk.drewN ?_) | (with_reducible refine Blk.drew ?_) | (with_reducible refine Blk.other ?_ (by first | omega | (simp; done) | (simp; omega))))), q⟩
        · exact d4_14
        · exact d4_15
        · exact d11_14
        · exact d11_15
        · exact d14_15
        · exact s14
        · exact s15
      · have ge10 : gg10 = false := hi2
        have ge9 : gg9 = true := by cases ho; simp [Region.binds] at hall; simp_all
        clear hall hi1 hi2
        subst ge10 ge9
        have ho2 := ho
        simp only [List.getElem?_toArray, List.getElem?_cons_zero, List.getElem?_cons_succ] at ho2
        have ho3 := Option.some.inj ho2; clear ho2; subst ho3
        obtain ⟨ba0, bb0⟩ := fb0.read; have bl0 := fb0.lt
        obtain ⟨ba1, bb1⟩ := fb1.read; have bl1 := fb1.lt
        obtain ⟨ba2, bb2⟩ := fb2.read; have bl2 := fb2.lt
        simp only [Act.put, List.setIfInBounds_toArray, List.set_cons_zero, List.set_cons_succ]
        simp only [cond_true, cond_false]
        refine inv_op ho (by kernel_rfl) (fun K hK => ?_)
        clear ho
        go_simp
        refine hK.out _ _ ?_
        unfold MeetI
        refine ⟨gg0, gg1, gg2, gg3, gg4, gg5, gg6, gg7, gg8, true, true, gg11, gg12, gg13, gg14, gg15, gg16, gg17, x4, x11, x14, x15, rfl, by simp only [Act.put, List.setIfInBounds_toArray, List.set_cons_zero, List.set_cons_succ, cond_true, cond_false], ?_, ?_, ?_, ?_, ?_, ?_, ?_, ?_, ?_, ?_, ?_, ?_, ?_, ?_, ?_⟩
        · (repeat' (first | (with_reducible assumption) | ((with_reducible refine Blk.new ?_); first | rfl | (simp; done)) | (with_reducible refine Blk.later (by assumption) ?_) | (with_reducible refine Blk.alloc ?_) | (with_reducible refine Blk.drewN ?_) | (with_reducible refine Blk.drew ?_) | (with_reducible refine Blk.other ?_ (by first | omega | (simp; done) | (simp; omega)))))
        · (repeat' (first | (with_reducible assumption) | ((with_reducible refine Blk.new ?_); first | rfl | (simp; done)) | (with_reducible refine Blk.later (by assumption) ?_) | (with_reducible refine Blk.alloc ?_) | (with_reducible refine Blk.drewN ?_) | (with_reducible refine Blk.drew ?_) | (with_reducible refine Blk.other ?_ (by first | omega | (simp; done) | (simp; omega)))))
        · (repeat' (first | (with_reducible assumption) | ((with_reducible refine Blk.new ?_); first | rfl | (simp; done)) | (with_reducible refine Blk.later (by assumption) ?_) | (with_reducible refine Blk.alloc ?_) | (with_reducible refine Blk.drewN ?_) | (with_reducible refine Blk.drew ?_) | (with_reducible refine Blk.other ?_ (by first | omega | (simp; done) | (simp; omega)))))
        · (repeat' (first | (with_reducible exact Below.refl _ _) | (with_reducible assumption) | (with_reducible refine belowThru ?_ (by assumption)) | (with_reducible refine belowAlloc ?_) | (with_reducible refine Below.setCell ?_ (by first | omega | (simp; done) | (simp; omega)) _) | (with_reducible refine Below.drew ?_) | (with_reducible refine below_drewN ?_ _)))
        · intro h; obtain ⟨p, q⟩ := f4 h; exact ⟨by (repeat' (first | (with_reducible assumption) | ((with_reducible refine Blk.new ?_); first | rfl | (simp; done)) | (with_reducible refine Blk.later (by assumption) ?_) | (with_reducible refine Blk.alloc ?_) | (with_reducible refine Blk.drewN ?_) | (with_reducible refine Blk.drew ?_) | (with_reducible refine Blk.other ?_ (by first | omega | (simp; done) | (simp; omega))))), q⟩
        · intro h; obtain ⟨p, q⟩ := f11 h; exact ⟨by (repeat' (first | (with_reducible assumption) | ((with_reducible refine Blk.new ?_); first | rfl | (simp; done)) | (with_reducible refine Blk.later (by assumption) ?_) | (with_reducible refine Blk.alloc ?_) | (with_reducible refine Blk.drewN ?_) | (with_reducible refine Blk.drew ?_) | (with_reducible refine Blk.other ?_ (by first | omega | (simp; done) | (simp; omega))))), q⟩
        · intro h; obtain ⟨p, q⟩ := f14 h; exact ⟨by (repeat' (first | (with_reducible assumption) | ((with_reducible refine Blk.new ?_); first | rfl | (simp; done)) | (with_reducible refine Blk.later (by assumption) ?_) | (with_reducible refine Blk.alloc ?_) | (with_reducible refine Blk.drewN ?_) | (with_reducible refine Blk.drew ?_) | (with_reducible refine Blk.other ?_ (by first | omega | (simp; done) | (simp; omega))))), q⟩
        · intro h; obtain ⟨p, q⟩ := f15 h; exact ⟨by (repeat' (first | (with_reducible assumption) | ((with_reducible refine Blk.new ?_); first | rfl | (simp; done)) | (with_reducible refine Blk.later (by assumption) ?_) | (with_reducible refine Blk.alloc ?_) | (with_reducible refine Blk.drewN ?_) | (with_reducible refine Blk.drew ?_) | (with_reducible refine Blk.other ?_ (by first | omega | (simp; done) | (simp; omega))))), q⟩
        · exact d4_14
        · exact d4_15
        · exact d11_14
        · exact d11_15
        · exact d14_15
        · exact s14
        · exact s15
      · have ge11 : gg11 = false := hi2
        have ge10 : gg10 = true := by cases ho; simp [Region.binds] at hall; simp_all
        clear hall hi1 hi2
        subst ge11 ge10
        have ho2 := ho
        simp only [List.getElem?_toArray, List.getElem?_cons_zero, List.getElem?_cons_succ] at ho2
        have ho3 := Option.some.inj ho2; clear ho2; subst ho3
        obtain ⟨ba0, bb0⟩ := fb0.read; have bl0 := fb0.lt
        obtain ⟨ba1, bb1⟩ := fb1.read; have bl1 := fb1.lt
        obtain ⟨ba2, bb2⟩ := fb2.read; have bl2 := fb2.lt
        simp only [Act.put, List.setIfInBounds_toArray, List.set_cons_zero, List.set_cons_succ]
        simp only [cond_true, cond_false]
        refine inv_op ho (by kernel_rfl) (fun K hK => ?_)
        clear ho
        go_simp
        refine hK.out _ _ ?_
        unfold MeetI
        refine ⟨gg0, gg1, gg2, gg3, gg4, gg5, gg6, gg7, gg8, gg9, true, true, gg12, gg13, gg14, gg15, gg16, gg17, x4, w9.heap.size, x14, x15, rfl, by simp only [Act.put, List.setIfInBounds_toArray, List.set_cons_zero, List.set_cons_succ, cond_true, cond_false], ?_, ?_, ?_, ?_, ?_, ?_, ?_, ?_, ?_, ?_, ?_, ?_, ?_, ?_, ?_⟩
        · (repeat' (first | (with_reducible assumption) | ((with_reducible refine Blk.new ?_); first | rfl | (simp; done)) | (with_reducible refine Blk.later (by assumption) ?_) | (with_reducible refine Blk.alloc ?_) | (with_reducible refine Blk.drewN ?_) | (with_reducible refine Blk.drew ?_) | (with_reducible refine Blk.other ?_ (by first | omega | (simp; done) | (simp; omega)))))
        · (repeat' (first | (with_reducible assumption) | ((with_reducible refine Blk.new ?_); first | rfl | (simp; done)) | (with_reducible refine Blk.later (by assumption) ?_) | (with_reducible refine Blk.alloc ?_) | (with_reducible refine Blk.drewN ?_) | (with_reducible refine Blk.drew ?_) | (with_reducible refine Blk.other ?_ (by first | omega | (simp; done) | (simp; omega)))))
        · (repeat' (first | (with_reducible assumption) | ((with_reducible refine Blk.new ?_); first | rfl | (simp; done)) | (with_reducible refine Blk.later (by assumption) ?_) | (with_reducible refine Blk.alloc ?_) | (with_reducible refine Blk.drewN ?_) | (with_reducible refine Blk.drew ?_) | (with_reducible refine Blk.other ?_ (by first | omega | (simp; done) | (simp; omega)))))
        · (repeat' (first | (with_reducible exact Below.refl _ _) | (with_reducible assumption) | (with_reducible refine belowThru ?_ (by assumption)) | (with_reducible refine belowAlloc ?_) | (with_reducible refine Below.setCell ?_ (by first | omega | (simp; done) | (simp; omega)) _) | (with_reducible refine Below.drew ?_) | (with_reducible refine below_drewN ?_ _)))
        · intro h; obtain ⟨p, q⟩ := f4 h; exact ⟨by (repeat' (first | (with_reducible assumption) | ((with_reducible refine Blk.new ?_); first | rfl | (simp; done)) | (with_reducible refine Blk.later (by assumption) ?_) | (with_reducible refine Blk.alloc ?_) | (with_reducible refine Blk.drewN ?_) | (with_reducible refine Blk.drew ?_) | (with_reducible refine Blk.other ?_ (by first | omega | (simp; done) | (simp; omega))))), q⟩
        · intro _; exact ⟨Blk.new rfl, by have := fB.size; omega⟩
        · intro h; obtain ⟨p, q⟩ := f14 h; exact ⟨by (repeat' (first | (with_reducible assumption) | ((with_reducible refine Blk.new ?_); first | rfl | (simp; done)) | (with_reducible refine Blk.later (by assumption) ?_) | (with_reducible refine Blk.alloc ?_) | (with_reducible refine Blk.drewN ?_) | (with_reducible refine Blk.drew ?_) | (with_reducible refine Blk.other ?_ (by first | omega | (simp; done) | (simp; omega))))), q⟩
        · intro h; obtain ⟨p, q⟩ := f15 h; exact ⟨by (repeat' (first | (with_reducible assumption) | ((with_reducible refine Blk.new ?_); first | rfl | (simp; done)) | (with_reducible refine Blk.later (by assumption) ?_) | (with_reducible refine Blk.alloc ?_) | (with_reducible refine Blk.drewN ?_) | (with_reducible refine Blk.drew ?_) | (with_reducible refine Blk.other ?_ (by first | omega | (simp; done) | (simp; omega))))), q⟩
        · exact d4_14
        · exact d4_15
        · intro _ h; have := (f14 h).1.lt; omega
        · intro _ h; have := (f15 h).1.lt; omega
        · exact d14_15
        · exact s14
        · exact s15
      · have ge12 : gg12 = false := hi2
        have ge8 : gg8 = true := by cases ho; simp [Region.binds] at hall; simp_all
        have ge11 : gg11 = true := by cases ho; simp [Region.binds] at hall; simp_all
        clear hall hi1 hi2
        subst ge12 ge8 ge11
        have ho2 := ho
        simp only [List.getElem?_toArray, List.getElem?_cons_zero, List.getElem?_cons_succ] at ho2
        have ho3 := Option.some.inj ho2; clear ho2; subst ho3
        obtain ⟨p11, q11⟩ := f11 rfl
        obtain ⟨ra11, rb11⟩ := p11.read
        have rl11 := p11.lt
        obtain ⟨ba0, bb0⟩ := fb0.read; have bl0 := fb0.lt
        obtain ⟨ba1, bb1⟩ := fb1.read; have bl1 := fb1.lt
        obtain ⟨ba2, bb2⟩ := fb2.read; have bl2 := fb2.lt
        simp only [Act.put, List.setIfInBounds_toArray, List.set_cons_zero, List.set_cons_succ]
        simp only [cond_true, cond_false]
        refine inv_op ho (by kernel_rfl) (fun K hK => ?_)
        clear ho
        go_simp
        go_at_call 93; (with_reducible refine (HV.out _ _ (by simp [ra11]) (by simp [ra11])).mono ?_); rintro e w1 ⟨rfl, hb⟩
        refine hK.out _ _ ?_
        unfold MeetI
        refine ⟨gg0, gg1, gg2, gg3, gg4, gg5, gg6, gg7, true, gg9, gg10, true, true, gg13, gg14, gg15, gg16, gg17, x4, x11, x14, x15, rfl, by simp only [Act.put, List.setIfInBounds_toArray, List.set_cons_zero, List.set_cons_succ, cond_true, cond_false], ?_, ?_, ?_, ?_, ?_, ?_, ?_, ?_, ?_, ?_, ?_, ?_, ?_, ?_, ?_⟩
        · (repeat' (first | (with_reducible assumption) | ((with_reducible refine Blk.new ?_); first | rfl | (simp; done)) | (with_reducible refine Blk.later (by assumption) ?_) | (with_reducible refine Blk.alloc ?_) | (with_reducible refine Blk.drewN ?_) | (with_reducible refine Blk.drew ?_) | (with_reducible refine Blk.other ?_ (by first | omega | (simp; done) | (simp; omega)))))
        · (repeat' (first | (with_reducible assumption) | ((with_reducible refine Blk.new ?_); first | rfl | (simp; done)) | (with_reducible refine Blk.later (by assumption) ?_) | (with_reducible refine Blk.alloc ?_) | (with_reducible refine Blk.drewN ?_) | (with_reducible refine Blk.drew ?_) | (with_reducible refine Blk.other ?_ (by first | omega | (simp; done) | (simp; omega)))))
        · (repeat' (first | (with_reducible assumption) | ((with_reducible refine Blk.new ?_); first | rfl | (simp; done)) | (with_reducible refine Blk.later (by assumption) ?_) | (with_reducible refine Blk.alloc ?_) | (with_reducible refine Blk.drewN ?_) | (with_reducible refine Blk.drew ?_) | (with_reducible refine Blk.other ?_ (by first | omega | (simp; done) | (simp; omega)))))
        · (repeat' (first | (with_reducible exact Below.refl _ _) | (with_reducible assumption) | (with_reducible refine belowThru ?_ (by assumption)) | (with_reducible refine belowAlloc ?_) | (with_reducible refine Below.setCell ?_ (by first | omega | (simp; done) | (simp; omega)) _) | (with_reducible refine Below.drew ?_) | (with_reducible refine below_drewN ?_ _)))
        · intro h; obtain ⟨p, q⟩ := f4 h; exact ⟨by (repeat' (first | (with_reducible assumption) | ((with_reducible refine Blk.new ?_); first | rfl | (simp; done)) | (with_reducible refine Blk.later (by assumption) ?_) | (with_reducible refine Blk.alloc ?_) | (with_reducible refine Blk.drewN ?_) | (with_reducible refine Blk.drew ?_) | (with_reducible refine Blk.other ?_ (by first | omega | (simp; done) | (simp; omega))))), q⟩
        · intro h; obtain ⟨p, q⟩ := f11 h; exact ⟨by (repeat' (first | (with_reducible assumption) | ((with_reducible refine Blk.new ?_); first | rfl | (simp; done)) | (with_reducible refine Blk.later (by assumption) ?_) | (with_reducible refine Blk.alloc ?_) | (with_reducible refine Blk.drewN ?_) | (with_reducible refine Blk.drew ?_) | (with_reducible refine Blk.other ?_ (by first | omega | (simp; done) | (simp; omega))))), q⟩
        · intro h; obtain ⟨p, q⟩ := f14 h; exact ⟨by (repeat' (first | (with_reducible assumption) | ((with_reducible refine Blk.new ?_); first | rfl | (simp; done)) | (with_reducible refine Blk.later (by assumption) ?_) | (with_reducible refine Blk.alloc ?_) | (with_reducible refine Blk.drewN ?_) | (with_reducible refine Blk.drew ?_) | (with_reducible refine Blk.other ?_ (by first | omega | (simp; done) | (simp; omega))))), q⟩
        · intro h; obtain ⟨p, q⟩ := f15 h; exact ⟨by (repeat' (first | (with_reducible assumption) | ((with_reducible refine Blk.new ?_); first | rfl | (simp; done)) | (with_reducible refine Blk.later (by assumption) ?_) | (with_reducible refine Blk.alloc ?_) | (with_reducible refine Blk.drewN ?_) | (with_reducible refine Blk.drew ?_) | (with_reducible refine Blk.other ?_ (by first | omega | (simp; done) | (simp; omega))))), q⟩
        · exact d4_14
        · exact d4_15
        · exact d11_14
        · exact d11_15
        · exact d14_15
        · exact s14
        · exact s15
      · have ge13 : gg13 = false := hi2
        have ge12 : gg12 = true := by cases ho; simp [Region.binds] at hall; simp_all
        clear hall hi1 hi2
        subst ge13 ge12
        have ho2 := ho
        simp only [List.getElem?_toArray, List.getElem?_cons_zero, List.getElem?_cons_succ] at ho2
        have ho3 := Option.some.inj ho2; clear ho2; subst ho3
        obtain ⟨ba0, bb0⟩ := fb0.read; have bl0 := fb0.lt
        obtain ⟨ba1, bb1⟩ := fb1.read; have bl1 := fb1.lt
        obtain ⟨ba2, bb2⟩ := fb2.read; have bl2 := fb2.lt
        simp only [Act.put, List.setIfInBounds_toArray, List.set_cons_zero, List.set_cons_succ]
        simp only [cond_true, cond_false]
        refine inv_op ho (by kernel_rfl) (fun K hK => ?_)
        clear ho
        go_simp
        refine hK.out _ _ ?_
        unfold MeetI
        refine ⟨gg0, gg1, gg2, gg3, gg4, gg5, gg6, gg7, gg8, gg9, gg10, gg11, true, true, gg14, gg15, gg16, gg17, x4, x11, x14, x15, rfl, by simp only [Act.put, List.setIfInBounds_toArray, List.set_cons_zero, List.set_cons_succ, cond_true, cond_false], ?_, ?_, ?_, ?_, ?_, ?_, ?_, ?_, ?_, ?_, ?_, ?_, ?_, ?_, ?_⟩
        · (repeat' (first | (with_reducible assumption) | ((with_reducible refine Blk.new ?_); first | rfl | (simp; done)) | (with_reducible refine Blk.later (by assumption) ?_) | (with_reducible refine Blk.alloc ?_) | (with_reducible refine Blk.drewN ?_) | (with_reducible refine Blk.drew ?_) | (with_reducible refine Blk.other ?_ (by first | omega | (simp; done) | (simp; omega)))))
        · (repeat' (first | (with_reducible assumption) | ((with_reducible refine Blk.new ?_); first | rfl | (simp; done)) | (with_reducible refine Blk.later (by assumption) ?_) | (with_reducible refine Blk.alloc ?_) | (with_reducible refine Blk.drewN ?_) | (with_reducible refine Blk.drew ?_) | (with_reducible refine Blk.other ?_ (by first | omega | (simp; done) | (simp; omega)))))
        · (repeat' (first | (with_reducible assumption) | ((with_reducible refine Blk.new ?_); first | rfl | (simp; done)) | (with_reducible refine Blk.later (by assumption) ?_) | (with_reducible refine Blk.alloc ?_) | (with_reducible refine Blk.drewN ?_) | (with_reducible refine Blk.drew ?_) | (with_reducible refine Blk.other ?_ (by first | omega | (simp; done) | (simp; omega)))))
        · (repeat' (first | (with_reducible exact Below.refl _ _) | (with_reducible assumption) | (with_reducible refine belowThru ?_ (by assumption)) | (with_reducible refine belowAlloc ?_) | (with_reducible refine Below.setCell ?_ (by first | omega | (simp; done) | (simp; omega)) _) | (with_reducible refine Below.drew ?_) | (with_reducible refine below_drewN ?_ _)))
        · intro h; obtain ⟨p, q⟩ := f4 h; exact ⟨by (repeat' (first | (with_reducible assumption) | ((with_reducible refine Blk.new ?_); first | rfl | (simp; done)) | (with_reducible refine Blk.later (by assumption) ?_) | (with_reducible refine Blk.alloc ?_) | (with_reducible refine Blk.drewN ?_) | (with_reducible refine Blk.drew ?_) | (with_reducible refine Blk.other ?_ (by first | omega | (simp; done) | (simp; omega))))), q⟩
        · intro h; obtain ⟨p, q⟩ := f11 h; exact ⟨by (repeat' (first | (with_reducible assumption) | ((with_reducible refine Blk.new ?_); first | rfl | (simp; done)) | (with_reducible refine Blk.later (by assumption) ?_) | (with_reducible refine Blk.alloc ?_) | (with_reducible refine Blk.drewN ?_) | (with_reducible refine Blk.drew ?_) | (with_reducible refine Blk.other ?_ (by first | omega | (simp; done) | (simp; omega))))), q⟩
        · intro h; obtain ⟨p, q⟩ := f14 h; exact ⟨by (repeat' (first | (with_reducible assumption) | ((with_reducible refine Blk.new ?_); first | rfl | (simp; done)) | (with_reducible refine Blk.later (by assumption) ?_) | (with_reducible refine Blk.alloc ?_) | (with_reducible refine Blk.drewN ?_) | (with_reducible refine Blk.drew ?_) | (with_reducible refine Blk.other ?_ (by first | omega | (simp; done) | (simp; omega))))), q⟩
        · intro h; obtain ⟨p, q⟩ := f15 h; exact ⟨by (repeat' (first | (with_reducible assumption) | ((with_reducible refine Blk.new ?_); first | rfl | (simp; done)) | (with_reducible refine Blk.later (by assumption) ?_) | (with_reducible refine Blk.alloc ?_) | (with_reducible refine Blk.drewN ?_) | (with_reducible refine Blk.drew ?_) | (with_reducible refine Blk.other ?_ (by first | omega | (simp; done) | (simp; omega))))), q⟩
        · exact d4_14
        · exact d4_15
        · exact d11_14
        · exact d11_15
        · exact d14_15
        · exact s14
        · exact s15
      · have ge14 : gg14 = false := hi2
        clear hall hi1 hi2
        subst ge14
        have ho2 := ho
        simp only [List.getElem?_toArray, List.getElem?_cons_zero, List.getElem?_cons_succ] at ho2
        have ho3 := Option.some.inj ho2; clear ho2; subst ho3
        obtain ⟨ba0, bb0⟩ := fb0.read; have bl0 := fb0.lt
        obtain ⟨ba1, bb1⟩ := fb1.read; have bl1 := fb1.lt
        obtain ⟨ba2, bb2⟩ := fb2.read; have bl2 := fb2.lt
        obtain rfl : gg16 = false := by cases gg16; rfl; exact Bool.noConfusion (s14 rfl)
        simp only [Act.put, List.setIfInBounds_toArray, List.set_cons_zero, List.set_cons_succ]
        simp only [cond_true, cond_false]
        refine inv_op ho (by kernel_rfl) (fun K hK => ?_)
        clear ho
        go_simp
        refine hK.out _ _ ?_
        unfold MeetI
        refine ⟨gg0, gg1, gg2, gg3, gg4, gg5, gg6, gg7, gg8, gg9, gg10, gg11, gg12, gg13, true, gg15, false, gg17, x4, x11, w9.heap.size, x15, rfl, by simp only [Act.put, List.setIfInBounds_toArray, List.set_cons_zero, List.set_cons_succ, cond_true, cond_false], ?_, ?_, ?_, ?_, ?_, ?_, ?_, ?_, ?_, ?_, ?_, ?_, ?_, ?_, ?_⟩
        · (repeat' (first | (with_reducible assumption) | ((with_reducible refine Blk.new ?_); first | rfl | (simp; done)) | (with_reducible refine Blk.later (by assumption) ?_) | (with_reducible refine Blk.alloc ?_) | (with_reducible refine Blk.drewN ?_) | (with_reducible refine Blk.drew ?_) | (with_reducible refine Blk.other ?_ (by first | omega | (simp; done) | (simp; omega)))))
        · (repeat' (first | (with_reducible assumption) | ((with_reducible refine Blk.new ?_); first | rfl | (simp; done)) | (with_reducible refine Blk.later (by assumption) ?_) | (with_reducible refine Blk.alloc ?_) | (with_reducible refine Blk.drewN ?_) | (with_reducible refine Blk.drew ?_) | (with_reducible refine Blk.other ?_ (by first | omega | (simp; done) | (simp; omega)))))
        · (repeat' (first | (with_reducible assumption) | ((with_reducible refine Blk.new ?_); first | rfl | (simp; done)) | (with_reducible refine Blk.later (by assumption) ?_) | (with_reducible refine Blk.alloc ?_) | (with_reducible refine Blk.drewN ?_) | (with_reducible refine Blk.drew ?_) | (with_reducible refine Blk.other ?_ (by first | omega | (simp; done) | (simp; omega)))))
        · (repeat' (first | (with_reducible exact Below.refl _ _) | (with_reducible assumption) | (with_reducible refine belowThru ?_ (by assumption)) | (with_reducible refine belowAlloc ?_) | (with_reducible refine Below.setCell ?_ (by first | omega | (simp; done) | (simp; omega)) _) | (with_reducible refine Below.drew ?_) | (with_reducible refine below_drewN ?_ _)))
        · intro h; obtain ⟨p, q⟩ := f4 h; exact ⟨by (repeat' (first | (with_reducible assumption) | ((with_reducible refine Blk.new ?_); first | rfl | (simp; done)) | (with_reducible refine Blk.later (by assumption) ?_) | (with_reducible refine Blk.alloc ?_) | (with_reducible refine Blk.drewN ?_) | (with_reducible refine Blk.drew ?_) | (with_reducible refine Blk.other ?_ (by first | omega | (simp; done) | (simp; omega))))), q⟩
        · intro h; obtain ⟨p, q⟩ := f11 h; exact ⟨by (repeat' (first | (with_reducible assumption) | ((with_reducible refine Blk.new ?_); first | rfl | (simp; done)) | (with_reducible refine Blk.later (by assumption) ?_) | (with_reducible refine Blk.alloc ?_) | (with_reducible refine Blk.drewN ?_) | (with_reducible refine Blk.drew ?_) | (with_reducible refine Blk.other ?_ (by first | omega | (simp; done) | (simp; omega))))), q⟩
        · intro _; exact ⟨Blk.new rfl, by have := fB.size; omega⟩
        · intro h; obtain ⟨p, q⟩ := f15 h; exact ⟨by (repeat' (first | (with_reducible assumption) | ((with_reducible refine Blk.new ?_); first | rfl | (simp; done)) | (with_reducible refine Blk.later (by assumption) ?_) | (with_reducible refine Blk.alloc ?_) | (with_reducible refine Blk.drewN ?_) | (with_reducible refine Blk.drew ?_) | (with_reducible refine Blk.other ?_ (by first | omega | (simp; done) | (simp; omega))))), q⟩
        · intro h _; have := (f4 h).1.lt; omega
        · exact d4_15
        · intro h _; have := (f11 h).1.lt; omega
        · exact d11_15
        · intro _ h; have := (f15 h).1.lt; omega
        · intro _; rfl
        · exact s15
      · have ge15 : gg15 = false := hi2
        clear hall hi1 hi2
        subst ge15
        have ho2 := ho
        simp only [List.getElem?_toArray, List.getElem?_cons_zero, List.getElem?_cons_succ] at ho2
        have ho3 := Option.some.inj ho2; clear ho2; subst ho3
        obtain ⟨ba0, bb0⟩ := fb0.read; have bl0 := fb0.lt
        obtain ⟨ba1, bb1⟩ := fb1.read; have bl1 := fb1.lt
        obtain ⟨ba2, bb2⟩ := fb2.read; have bl2 := fb2.lt
        obtain rfl : gg17 = false := by cases gg17; rfl; exact Bool.noConfusion (s15 rfl)
        simp only [Act.put, List.setIfInBounds_toArray, List.set_cons_zero, List.set_cons_succ]
        simp only [cond_true, cond_false]
        refine inv_op ho (by kernel_rfl) (fun K hK => ?_)
        clear ho
        go_simp
        refine hK.out _ _ ?_
        unfold MeetI
        refine ⟨gg0, gg1, gg2, gg3, gg4, gg5, gg6, gg7, gg8, gg9, gg10, gg11, gg12, gg13, gg14, true, gg16, false, x4, x11, x14, w9.heap.size, rfl, by simp only [Act.put, List.setIfInBounds_toArray, List.set_cons_zero, List.set_cons_succ, cond_true, cond_false], ?_, ?_, ?_, ?_, ?_, ?_, ?_, ?_, ?_, ?_, ?_, ?_, ?_, ?_, ?_⟩
        · (repeat' (first | (with_reducible assumption) | ((with_reducible refine Blk.new ?_); first | rfl | (simp; done)) | (with_reducible refine Blk.later (by assumption) ?_) | (with_reducible refine Blk.alloc ?_) | (with_reducible refine Blk.drewN ?_) | (with_reducible refine Blk.drew ?_) | (with_reducible refine Blk.other ?_ (by first | omega | (simp; done) | (simp; omega)))))
        · (repeat' (first | (with_reducible assumption) | ((with_reducible refine Blk.new ?_); first | rfl | (simp; done)) | (with_reducible refine Blk.later (by assumption) ?_) | (with_reducible refine Blk.alloc ?_) | (with_reducible refine Blk.drewN ?_) | (with_reducible refine Blk.drew ?_) | (with_reducible refine Blk.other ?_ (by first | omega | (simp; done) | (simp; omega)))))
        · (repeat' (first | (with_reducible assumption) | ((with_reducible refine Blk.new ?_); first | rfl | (simp; done)) | (with_reducible refine Blk.later (by assumption) ?_) | (with_reducible refine Blk.alloc ?_) | (with_reducible refine Blk.drewN ?_) | (with_reducible refine Blk.drew ?_) | (with_reducible refine Blk.other ?_ (by first | omega | (simp; done) | (simp; omega)))))
        · (repeat' (first | (with_reducible exact Below.refl _ _) | (with_reducible assumption) | (with_reducible refine belowThru ?_ (by assumption)) | (with_reducible refine belowAlloc ?_) | (with_reducible refine Below.setCell ?_ (by first | omega | (simp; done) | (simp; omega)) _) | (with_reducible refine Below.drew ?_) | (with_reducible refine below_drewN ?_ _)))
        · intro h; obtain ⟨p, q⟩ := f4 h; exact ⟨by (repeat' (first | (with_reducible assumption) | ((with_reducible refine Blk.new ?_); first | rfl | (simp; done)) | (with_reducible refine Blk.later (by assumption) ?_) | (with_reducible refine Blk.alloc ?_) | (with_reducible refine Blk.drewN ?_) | (with_reducible refine Blk.drew ?_) | (with_reducible refine Blk.other ?_ (by first | omega | (simp; done) | (simp; omega))))), q⟩
        · intro h; obtain ⟨p, q⟩ := f11 h; exact ⟨by (repeat' (first | (with_reducible assumption) | ((with_reducible refine Blk.new ?_); first | rfl | (simp; done)) | (with_reducible refine Blk.later (by assumption) ?_) | (with_reducible refine Blk.alloc ?_) | (with_reducible refine Blk.drewN ?_) | (with_reducible refine Blk.drew ?_) | (with_reducible refine Blk.other ?_ (by first | omega | (simp; done) | (simp; omega))))), q⟩
        · intro h; obtain ⟨p, q⟩ := f14 h; exact ⟨by (repeat' (first | (with_reducible assumption) | ((with_reducible refine Blk.new ?_); first | rfl | (simp; done)) | (with_reducible refine Blk.later (by assumption) ?_) | (with_reducible refine Blk.alloc ?_) | (with_reducible refine Blk.drewN ?_) | (with_reducible refine Blk.drew ?_) | (with_reducible refine Blk.other ?_ (by first | omega | (simp; done) | (simp; omega))))), q⟩
        · intro _; exact ⟨Blk.new rfl, by have := fB.size; omega⟩
        · exact d4_14
        · intro h _; have := (f4 h).1.lt; omega
        · exact d11_14
        · intro h _; have := (f11 h).1.lt; omega
        · intro h _; have := (f14 h).1.lt; omega
        · exact s14
        · intro _; rfl
      · have ge16 : gg16 = false := hi2
        have ge6 : gg6 = true := by cases ho; simp [Region.binds] at hall; simp_all
        have ge14 : gg14 = true := by cases ho; simp [Region.binds] at hall; simp_all
        clear hall hi1 hi2
        subst ge16 ge6 ge14
        have ho2 := ho
        simp only [List.getElem?_toArray, List.getElem?_cons_zero, List.getElem?_cons_succ] at ho2
        have ho3 := Option.some.inj ho2; clear ho2; subst ho3
        obtain ⟨p14, q14⟩ := f14 rfl
        obtain ⟨ra14, rb14⟩ := p14.read
        have rl14 := p14.lt
        obtain ⟨ba0, bb0⟩ := fb0.read; have bl0 := fb0.lt
        obtain ⟨ba1, bb1⟩ := fb1.read; have bl1 := fb1.lt
        obtain ⟨ba2, bb2⟩ := fb2.read; have bl2 := fb2.lt
        have rl14 := p14.lt
        skip
        simp only [Act.put, List.setIfInBounds_toArray, List.set_cons_zero, List.set_cons_succ]
        simp only [cond_true, cond_false]
        refine inv_op ho (by kernel_rfl) (fun K hK => ?_)
        clear ho
        go_simp
        refine hK.out _ _ ?_
        unfold MeetI
        refine ⟨gg0, gg1, gg2, gg3, gg4, gg5, true, gg7, gg8, gg9, gg10, gg11, gg12, gg13, true, gg15, true, gg17, x4, x11, x14, x15, rfl, by simp only [Act.put, List.setIfInBounds_toArray, List.set_cons_zero, List.set_cons_succ, cond_true, cond_false], ?_, ?_, ?_, ?_, ?_, ?_, ?_, ?_, ?_, ?_, ?_, ?_, ?_, ?_, ?_⟩
        · (repeat' (first | (with_reducible assumption) | ((with_reducible refine Blk.new ?_); first | rfl | (simp; done)) | (with_reducible refine Blk.later (by assumption) ?_) | (with_reducible refine Blk.alloc ?_) | (with_reducible refine Blk.drewN ?_) | (with_reducible refine Blk.drew ?_) | (with_reducible refine Blk.other ?_ (by first | omega | (simp; done) | (simp; omega)))))
        · (repeat' (first | (with_reducible assumption) | ((with_reducible refine Blk.new ?_); first | rfl | (simp; done)) | (with_reducible refine Blk.later (by assumption) ?_) | (with_reducible refine Blk.alloc ?_) | (with_reducible refine Blk.drewN ?_) | (with_reducible refine Blk.drew ?_) | (with_reducible refine Blk.other ?_ (by first | omega | (simp; done) | (simp; omega)))))
        · (repeat' (first | (with_reducible assumption) | ((with_reducible refine Blk.new ?_); first | rfl | (simp; done)) | (with_reducible refine Blk.later (by assumption) ?_) | (with_reducible refine Blk.alloc ?_) | (with_reducible refine Blk.drewN ?_) | (with_reducible refine Blk.drew ?_) | (with_reducible refine Blk.other ?_ (by first | omega | (simp; done) | (simp; omega)))))
        · (repeat' (first | (with_reducible exact Below.refl _ _) | (with_reducible assumption) | (with_reducible refine belowThru ?_ (by assumption)) | (with_reducible refine belowAlloc ?_) | (with_reducible refine Below.setCell ?_ (by first | omega | (simp; done) | (simp; omega)) _) | (with_reducible refine Below.drew ?_) | (with_reducible refine below_drewN ?_ _)))
        · intro h; obtain ⟨p, q⟩ := f4 h; have hne := d4_14 h rfl; exact ⟨by (repeat' (first | (with_reducible assumption) | ((with_reducible refine Blk.new ?_); first | rfl | (simp; done)) | (with_reducible refine Blk.later (by assumption) ?_) | (with_reducible refine Blk.alloc ?_) | (with_reducible refine Blk.drewN ?_) | (with_reducible refine Blk.drew ?_) | (with_reducible refine Blk.other ?_ (by first | omega | (simp; done) | (simp; omega))))), q⟩
        · intro h; obtain ⟨p, q⟩ := f11 h; have hne := d11_14 h rfl; exact ⟨by (repeat' (first | (with_reducible assumption) | ((with_reducible refine Blk.new ?_); first | rfl | (simp; done)) | (with_reducible refine Blk.later (by assumption) ?_) | (with_reducible refine Blk.alloc ?_) | (with_reducible refine Blk.drewN ?_) | (with_reducible refine Blk.drew ?_) | (with_reducible refine Blk.other ?_ (by first | omega | (simp; done) | (simp; omega))))), q⟩
        · intro _; exact ⟨by exact Blk.set2 p14, q14⟩
        · intro h; obtain ⟨p, q⟩ := f15 h; have hne := d14_15 rfl h; exact ⟨by (repeat' (first | (with_reducible assumption) | ((with_reducible refine Blk.new ?_); first | rfl | (simp; done)) | (with_reducible refine Blk.later (by assumption) ?_) | (with_reducible refine Blk.alloc ?_) | (with_reducible refine Blk.drewN ?_) | (with_reducible refine Blk.drew ?_) | (with_reducible refine Blk.other ?_ (by first | omega | (simp; done) | (simp; omega))))), q⟩
        · exact d4_14
        · exact d4_15
        · exact d11_14
        · exact d11_15
        · exact d14_15
        · intro _; rfl
        · exact s15
      · have ge17 : gg17 = false := hi2
        have ge13 : gg13 = true := by cases ho; simp [Region.binds] at hall; simp_all
        have ge15 : gg15 = true := by cases ho; simp [Region.binds] at hall; simp_all
        clear hall hi1 hi2
        subst ge17 ge13 ge15
        have ho2 := ho
        simp only [List.getElem?_toArray, List.getElem?_cons_zero, List.getElem?_cons_succ] at ho2
        have ho3 := Option.some.inj ho2; clear ho2; subst ho3
        obtain ⟨p15, q15⟩ := f15 rfl
        obtain ⟨ra15, rb15⟩ := p15.read
        have rl15 := p15.lt
        obtain ⟨ba0, bb0⟩ := fb0.read; have bl0 := fb0.lt
        obtain ⟨ba1, bb1⟩ := fb1.read; have bl1 := fb1.lt
        obtain ⟨ba2, bb2⟩ := fb2.read; have bl2 := fb2.lt
        have rl15 := p15.lt
        skip
        simp only [Act.put, List.setIfInBounds_toArray, List.set_cons_zero, List.set_cons_succ]
        simp only [cond_true, cond_false]
        refine inv_op ho (by kernel_rfl) (fun K hK => ?_)
        clear ho
        go_simp
        refine hK.out _ _ ?_
        unfold MeetI
        refine ⟨gg0, gg1, gg2, gg3, gg4, gg5, gg6, gg7, gg8, gg9, gg10, gg11, gg12, true, gg14, true, gg16, true, x4, x11, x14, x15, rfl, by simp only [Act.put, List.setIfInBounds_toArray, List.set_cons_zero, List.set_cons_succ, cond_true, cond_false], ?_, ?_, ?_, ?_, ?_, ?_, ?_, ?_, ?_, ?_, ?_, ?_, ?_, ?_, ?_⟩
        · (repeat' (first | (with_reducible assumption) | ((with_reducible refine Blk.new ?_); first | rfl | (simp; done)) | (with_reducible refine Blk.later (by assumption) ?_) | (with_reducible refine Blk.alloc ?_) | (with_reducible refine Blk.drewN ?_) | (with_reducible refine Blk.drew ?_) | (with_reducible refine Blk.other ?_ (by first | omega | (simp; done) | (simp; omega)))))
        · (repeat' (first | (with_reducible assumption) | ((with_reducible refine Blk.new ?_); first | rfl | (simp; done)) | (with_reducible refine Blk.later (by assumption) ?_) | (with_reducible refine Blk.alloc ?_) | (with_reducible refine Blk.drewN ?_) | (with_reducible refine Blk.drew ?_) | (with_reducible refine Blk.other ?_ (by first | omega | (simp; done) | (simp; omega)))))
        · (repeat' (first | (with_reducible assumption) | ((with_reducible refine Blk.new ?_); first | rfl | (simp; done)) | (with_reducible refine Blk.later (by assumption) ?_) | (with_reducible refine Blk.alloc ?_) | (with_reducible refine Blk.drewN ?_) | (with_reducible refine Blk.drew ?_) | (with_reducible refine Blk.other ?_ (by first | omega | (simp; done) | (simp; omega)))))
        · (repeat' (first | (with_reducible exact Below.refl _ _) | (with_reducible assumption) | (with_reducible refine belowThru ?_ (by assumption)) | (with_reducible refine belowAlloc ?_) | (with_reducible refine Below.setCell ?_ (by first | omega | (simp; done) | (simp; omega)) _) | (with_reducible refine Below.drew ?_) | (with_reducible refine below_drewN ?_ _)))
        · intro h; obtain ⟨p, q⟩ := f4 h; have hne := d4_15 h rfl; exact ⟨by (repeat' (first | (with_reducible assumption) | ((with_reducible refine Blk.new ?_); first | rfl | (simp; done)) | (with_reducible refine Blk.later (by assumption) ?_) | (with_reducible refine Blk.alloc ?_) | (with_reducible refine Blk.drewN ?_) | (with_reducible refine Blk.drew ?_) | (with_reducible refine Blk.other ?_ (by first | omega | (simp; done) | (simp; omega))))), q⟩
        · intro h; obtain ⟨p, q⟩ := f11 h; have hne := d11_15 h rfl; exact ⟨by (repeat' (first | (with_reducible assumption) | ((with_reducible refine Blk.new ?_); first | rfl | (simp; done)) | (with_reducible refine Blk.later (by assumption) ?_) | (with_reducible refine Blk.alloc ?_) | (with_reducible refine Blk.drewN ?_) | (with_reducible refine Blk.drew ?_) | (with_reducible refine Blk.other ?_ (by first | omega | (simp; done) | (simp; omega))))), q⟩
        · intro h; obtain ⟨p, q⟩ := f14 h; have hne := d14_15 h rfl; exact ⟨by (repeat' (first | (with_reducible assumption) | ((with_reducible refine Blk.new ?_); first | rfl | (simp; done)) | (with_reducible refine Blk.later (by assumption) ?_) | (with_reducible refine Blk.alloc ?_) | (with_reducible refine Blk.drewN ?_) | (with_reducible refine Blk.drew ?_) | (with_reducible refine Blk.other ?_ (by first | omega | (simp; done) | (simp; omega))))), q⟩
        · intro _; exact ⟨by exact Blk.set2 p15, q15⟩
        · exact d4_14
        · exact d4_15
        · exact d11_14
        · exact d11_15
        · exact d14_15
        · exact s14
        · intro _; rfl
      · exfalso; simp at hi1; omega
    · obtain ⟨gg0, gg1, gg2, gg3, gg4, gg5, gg6, gg7, gg8, gg9, gg10, gg11, gg12, gg13, gg14, gg15, gg16, gg17, x4, x11, x14, x15, hL, rfl, fb0, fb1, fb2, fB, f4, f11, f14, f15, d4_14, d4_15, d11_14, d11_15, d14_15, s14, s15⟩ := hI
      have hL2 : #[true, true, true, true, true, true, true, true, true, true, true, true, true, true, true, true, true, true] = #[gg0, gg1, gg2, gg3, gg4, gg5, gg6, gg7, gg8, gg9, gg10, gg11, gg12, gg13, gg14, gg15, gg16, gg17] := hL
      cases hL2
      obtain ⟨p4, q4⟩ := f4 rfl
      obtain ⟨p11, q11⟩ := f11 rfl
      obtain ⟨p14, q14⟩ := f14 rfl
      obtain ⟨p15, q15⟩ := f15 rfl
      have n4_14 := d4_14 rfl rfl
      have n4_15 := d4_15 rfl rfl
      have n11_14 := d11_14 rfl rfl
      have n11_15 := d11_15 rfl rfl
      have n14_15 := d14_15 rfl rfl
      clear f4 f11 f14 f15 d4_14 d4_15 d11_14 d11_15 d14_15 s14 s15
      simp only [Act.put, List.setIfInBounds_toArray, List.set_cons_zero, List.set_cons_succ]
      simp only [cond_true]
      go_wp2_with fail
      go_meet
      refine ⟨At2.mk q14 q15 n14_15 p14 p15, fb2, fB⟩
  case rest =>
    clear HU HV i0 i1
    obtain ⟨⟨pb, qb, rfl, rfl, g1, g2, hn, k3, k4⟩, k2, hB⟩ := hcut
    obtain ⟨a2, b2⟩ := k2.read; obtain ⟨a3, b3⟩ := k3.read; obtain ⟨a4, b4⟩ := k4.read
    have zz2 := k2.lt; have zz3 := k3.lt; have zz4 := k4.lt
    rcases hv with ⟨ho, rfl, rfl, rfl, rfl, rfl⟩ | ⟨ho, rfl, rfl, rfl, rfl, rfl⟩
    · go_wp2_with (go_at_call 81; (with_reducible refine (HO.out _).mono ?_); rintro e w1 ⟨rfl, hb⟩; (try (have zk := k0.lt; (first | ((with_reducible refine Blk.keepG hb k0 (fun h => ?_) ?_); (focus ((repeat' (first | (with_reducible assumption) | ((with_reducible refine Blk.new ?_); first | rfl | (simp; done)) | (with_reducible refine Blk.later (by assumption) ?_) | (with_reducible refine Blk.alloc ?_) | (with_reducible refine Blk.drewN ?_) | (with_reducible refine Blk.drew ?_) | (with_reducible refine Blk.other ?_ (by first | omega | (simp; done) | (simp; omega))))); done)); clear k0; intro k0) | (with_reducible replace k0 := Blk.later hb (Blk.set (Blk.set k0))) | (with_reducible replace k0 := Blk.later hb (Blk.set k0))); clear a0 b0; obtain ⟨a0, b0⟩ := k0.read; have zl := k0.lt)); (try (have zk := k1.lt; (first | ((with_reducible refine Blk.keepG hb k1 (fun h => ?_) ?_); (focus ((repeat' (first | (with_reducible assumption) | ((with_reducible refine Blk.new ?_); first | rfl | (simp; done)) | (with_reducible refine Blk.later (by assumption) ?_) | (with_reducible refine Blk.alloc ?_) | (with_reducible refine Blk.drewN ?_) | (with_reducible refine Blk.drew ?_) | (with_reducible refine Blk.other ?_ (by first | omega | (simp; done) | (simp; omega))))); done)); clear k1; intro k1) | (with_reducible replace k1 := Blk.later hb (Blk.set (Blk.set k1))) | (with_reducible replace k1 := Blk.later hb (Blk.set k1))); clear a1 b1; obtain ⟨a1, b1⟩ := k1.read; have zl := k1.lt)); (try (have zk := k2.lt; (first | ((with_reducible refine Blk.keepG hb k2 (fun h => ?_) ?_); (focus ((repeat' (first | (with_reducible assumption) | ((with_reducible refine Blk.new ?_); first | rfl | (simp; done)) | (with_reducible refine Blk.later (by assumption) ?_) | (with_reducible refine Blk.alloc ?_) | (with_reducible refine Blk.drewN ?_) | (with_reducible refine Blk.drew ?_) | (with_reducible refine Blk.other ?_ (by first | omega | (simp; done) | (simp; omega))))); done)); clear k2; intro k2) | (with_reducible replace k2 := Blk.later hb (Blk.set (Blk.set k2))) | (with_reducible replace k2 := Blk.later hb (Blk.set k2))); clear a2 b2; obtain ⟨a2, b2⟩ := k2.read; have zl := k2.lt)); (try (have zk := k3.lt; (first | ((with_reducible refine Blk.keepG hb k3 (fun h => ?_) ?_); (focus ((repeat' (first | (with_reducible assumption) | ((with_reducible refine Blk.new ?_); first | rfl | (simp; done)) | (with_reducible refine Blk.later (by assumption) ?_) | (with_reducible refine Blk.alloc ?_) | (with_reducible refine Blk.drewN ?_) | (with_reducible refine Blk.drew ?_) | (with_reducible refine Blk.other ?_ (by first | omega | (simp; done) | (simp; omega))))); done)); clear k3; intro k3) | (with_reducible replace k3 := Blk.later hb (Blk.set (Blk.set k3))) | (with_reducible replace k3 := Blk.later hb (Blk.set k3))); clear a3 b3; obtain ⟨a3, b3⟩ := k3.read; have zl := k3.lt)); (try (have zk := k4.lt; (first | ((with_reducible refine Blk.keepG hb k4 (fun h => ?_) ?_); (focus ((repeat' (first | (with_reducible assumption) | ((with_reducible refine Blk.new ?_); first | rfl | (simp; done)) | (with_reducible refine Blk.later (by assumption) ?_) | (with_reducible refine Blk.alloc ?_) | (with_reducible refine Blk.drewN ?_) | (with_reducible refine Blk.drew ?_) | (with_reducible refine Blk.other ?_ (by first | omega | (simp; done) | (simp; omega))))); done)); clear k4; intro k4) | (with_reducible replace k4 := Blk.later hb (Blk.set (Blk.set k4))) | (with_reducible replace k4 := Blk.later hb (Blk.set k4))); clear a4 b4; obtain ⟨a4, b4⟩ := k4.read; have zl := k4.lt)))
      exact bodyPost_ret (v := .tuple #[.agg #[.int .i64 0, .int .i64 0, .int .i64 0, .int .i64 0], .int .i64 6]) (by simp only [results, Try.results64]; go_simp) rfl ⟨rfl, by (repeat' (first | (with_reducible exact Below.refl _ _) | (with_reducible assumption) | (with_reducible refine belowThru ?_ (by assumption)) | (with_reducible refine belowAlloc ?_) | (with_reducible refine Below.setCell ?_ (by first | omega | (simp; done) | (simp; omega)) _) | (with_reducible refine Below.drew ?_) | (with_reducible refine below_drewN ?_ _)))⟩
    · go_wp2_with (go_at_call 81; (with_reducible refine (HO.out _).mono ?_); rintro e w1 ⟨rfl, hb⟩; (try (have zk := k0.lt; (first | ((with_reducible refine Blk.keepG hb k0 (fun h => ?_) ?_); (focus ((repeat' (first | (with_reducible assumption) | ((with_reducible refine Blk.new ?_); first | rfl | (simp; done)) | (with_reducible refine Blk.later (by assumption) ?_) | (with_reducible refine Blk.alloc ?_) | (with_reducible refine Blk.drewN ?_) | (with_reducible refine Blk.drew ?_) | (with_reducible refine Blk.other ?_ (by first | omega | (simp; done) | (simp; omega))))); done)); clear k0; intro k0) | (with_reducible replace k0 := Blk.later hb (Blk.set (Blk.set k0))) | (with_reducible replace k0 := Blk.later hb (Blk.set k0))); clear a0 b0; obtain ⟨a0, b0⟩ := k0.read; have zl := k0.lt)); (try (have zk := k1.lt; (first | ((with_reducible refine Blk.keepG hb k1 (fun h => ?_) ?_); (focus ((repeat' (first | (with_reducible assumption) | ((with_reducible refine Blk.new ?_); first | rfl | (simp; done)) | (with_reducible refine Blk.later (by assumption) ?_) | (with_reducible refine Blk.alloc ?_) | (with_reducible refine Blk.drewN ?_) | (with_reducible refine Blk.drew ?_) | (with_reducible refine Blk.other ?_ (by first | omega | (simp; done) | (simp; omega))))); done)); clear k1; intro k1) | (with_reducible replace k1 := Blk.later hb (Blk.set (Blk.set k1))) | (with_reducible replace k1 := Blk.later hb (Blk.set k1))); clear a1 b1; obtain ⟨a1, b1⟩ := k1.read; have zl := k1.lt)); (try (have zk := k2.lt; (first | ((with_reducible refine Blk.keepG hb k2 (fun h => ?_) ?_); (focus ((repeat' (first | (with_reducible assumption) | ((with_reducible refine Blk.new ?_); first | rfl | (simp; done)) | (with_reducible refine Blk.later (by assumption) ?_) | (with_reducible refine Blk.alloc ?_) | (with_reducible refine Blk.drewN ?_) | (with_reducible refine Blk.drew ?_) | (with_reducible refine Blk.other ?_ (by first | omega | (simp; done) | (simp; omega))))); done)); clear k2; intro k2) | (with_reducible replace k2 := Blk.later hb (Blk.set (Blk.set k2))) | (with_reducible replace k2 := Blk.later hb (Blk.set k2))); clear a2 b2; obtain ⟨a2, b2⟩ := k2.read; have zl := k2.lt)); (try (have zk := k3.lt; (first | ((with_reducible refine Blk.keepG hb k3 (fun h => ?_) ?_); (focus ((repeat' (first | (with_reducible assumption) | ((with_reducible refine Blk.new ?_); first | rfl | (simp; done)) | (with_reducible refine Blk.later (by assumption) ?_) | (with_reducible refine Blk.alloc ?_) | (with_reducible refine Blk.drewN ?_) | (with_reducible refine Blk.drew ?_) | (with_reducible refine Blk.other ?_ (by first | omega | (simp; done) | (simp; omega))))); done)); clear k3; intro k3) | (with_reducible replace k3 := Blk.later hb (Blk.set (Blk.set k3))) | (with_reducible replace k3 := Blk.later hb (Blk.set k3))); clear a3 b3; obtain ⟨a3, b3⟩ := k3.read; have zl := k3.lt)); (try (have zk := k4.lt; (first | ((with_reducible refine Blk.keepG hb k4 (fun h => ?_) ?_); (focus ((repeat' (first | (with_reducible assumption) | ((with_reducible refine Blk.new ?_); first | rfl | (simp; done)) | (with_reducible refine Blk.later (by assumption) ?_) | (with_reducible refine Blk.alloc ?_) | (with_reducible refine Blk.drewN ?_) | (with_reducible refine Blk.drew ?_) | (with_reducible refine Blk.other ?_ (by first | omega | (simp; done) | (simp; omega))))); done)); clear k4; intro k4) | (with_reducible replace k4 := Blk.later hb (Blk.set (Blk.set k4))) | (with_reducible replace k4 := Blk.later hb (Blk.set k4))); clear a4 b4; obtain ⟨a4, b4⟩ := k4.read; have zl := k4.lt)))
      exact bodyPost_ret (v := .tuple #[.agg #[.int .i64 A, .int .i64 B, .int .i64 C, .int .i64 D], .int .i64 0]) (by simp only [results, Try.results64]; go_simp) rfl ⟨rfl, by (repeat' (first | (with_reducible exact Below.refl _ _) | (with_reducible assumption) | (with_reducible refine belowThru ?_ (by assumption)) | (with_reducible refine belowAlloc ?_) | (with_reducible refine Below.setCell ?_ (by first | omega | (simp; done) | (simp; omega)) _) | (with_reducible refine Below.drew ?_) | (with_reducible refine below_drewN ?_ _)))⟩
end Go.Proofs.Ytdimmnoflenfhaa
/-
  Enclosures of fractions: what the four operations make of them, as plain arithmetic.
-/
namespace Go.Proofs.Ytdimmnoflenfhaa

theorem loQ3 (p q r s : Rat) : loQ p [q, r, s] ≤ p ∧ loQ p [q, r, s] ≤ q ∧ loQ p [q, r, s] ≤ r ∧ loQ p [q, r, s] ≤ s ∧ (loQ p [q, r, s] = p ∨ loQ p [q, r, s] = q ∨ loQ p [q, r, s] = r ∨ loQ p [q, r, s] = s) := by
  unfold loQ; simp only [List.foldl_cons, List.foldl_nil]; grind
theorem hiQ3 (p q r s : Rat) : p ≤ hiQ p [q, r, s] ∧ q ≤ hiQ p [q, r, s] ∧ r ≤ hiQ p [q, r, s] ∧ s ≤ hiQ p [q, r, s] ∧ (hiQ p [q, r, s] = p ∨ hiQ p [q, r, s] = q ∨ hiQ p [q, r, s] = r ∨ hiQ p [q, r, s] = s) := by
  unfold hiQ; simp only [List.foldl_cons, List.foldl_nil]; grind
theorem mulL {a b c : Rat} (h : a ≤ b) (hc : 0 ≤ c) : a * c ≤ b * c := by
  have := Rat.mul_nonneg (show 0 ≤ b - a by grind) hc
  grind
theorem mulLn {a b c : Rat} (h : a ≤ b) (hc : c ≤ 0) : b * c ≤ a * c := by
  have := Rat.mul_nonneg (show 0 ≤ b - a by grind) (show 0 ≤ -c by grind)
  grind
theorem mulR {a b c : Rat} (h : a ≤ b) (hc : 0 ≤ c) : c * a ≤ c * b := by
  have := mulL h hc
  grind
theorem mulRn {a b c : Rat} (h : a ≤ b) (hc : c ≤ 0) : c * b ≤ c * a := by
  have := mulLn h hc
  grind
theorem encl_mul {l h m n x y : Rat} (h1 : l ≤ x) (h2 : x ≤ h) (h3 : m ≤ y) (h4 : y ≤ n) :
    loQ (l * m) [l * n, h * m, h * n] ≤ x * y ∧ x * y ≤ hiQ (l * m) [l * n, h * m, h * n] := by
  obtain ⟨a1, a2, a3, a4, -⟩ := loQ3 (l * m) (l * n) (h * m) (h * n)
  obtain ⟨b1, b2, b3, b4, -⟩ := hiQ3 (l * m) (l * n) (h * m) (h * n)
  generalize loQ (l * m) [l * n, h * m, h * n] = L at *
  generalize hiQ (l * m) [l * n, h * m, h * n] = H at *
  have t : 0 ≤ y ∨ y ≤ 0 := by grind
  have tl : 0 ≤ l ∨ l ≤ 0 := by grind
  have th : 0 ≤ h ∨ h ≤ 0 := by grind
  have c1 : L ≤ l * y ∧ l * y ≤ H := by
    rcases tl with k | k
    · have := mulR h3 k; have := mulR h4 k; grind
    · have := mulRn h3 k; have := mulRn h4 k; grind
  have c2 : L ≤ h * y ∧ h * y ≤ H := by
    rcases th with k | k
    · have := mulR h3 k; have := mulR h4 k; grind
    · have := mulRn h3 k; have := mulRn h4 k; grind
  rcases t with k | k
  · have := mulL h1 k; have := mulL h2 k; grind
  · have := mulLn h1 k; have := mulLn h2 k; grind
theorem inv_le {m y : Rat} (h : m ≤ y) (hs : 0 < m ∨ y < 0) : y⁻¹ ≤ m⁻¹ := by
  have hp : 0 < m * y := by
    rcases hs with k | k
    · exact Rat.mul_pos k (by grind)
    · have := Rat.mul_pos (show 0 < -m by grind) (show 0 < -y by grind); grind
  have hi := Rat.inv_pos.2 hp
  have e : m⁻¹ - y⁻¹ = (y - m) * (m * y)⁻¹ := by
    have hm : m ≠ 0 := by grind
    have hy : y ≠ 0 := by grind
    grind
  have := Rat.mul_nonneg (show 0 ≤ y - m by grind) (Rat.le_of_lt hi)
  grind
theorem encl_div {l h m n x y : Rat} (h1 : l ≤ x) (h2 : x ≤ h) (h3 : m ≤ y) (h4 : y ≤ n) (hz : ¬ (m ≤ 0 ∧ 0 ≤ n)) :
    loQ (l * n⁻¹) [l * m⁻¹, h * n⁻¹, h * m⁻¹] ≤ x / y ∧ x / y ≤ hiQ (l * n⁻¹) [l * m⁻¹, h * n⁻¹, h * m⁻¹] := by
  rw [Rat.div_def]
  exact encl_mul h1 h2 (inv_le h4 (by grind)) (inv_le h3 (by grind))

/-- The four operations, by their numbers. -/
def opQ (k : Nat) (x y : Rat) : Rat := if k = 0 then x + y else if k = 1 then x - y else if k = 2 then x * y else x / y
/-- The enclosure from L to H is what the operation k makes of two. -/
def isSp (k : Nat) (l h m n L H : Rat) : Prop :=
  (k = 0 ∧ L = l + m ∧ H = h + n) ∨ (k = 1 ∧ L = l - n ∧ H = h - m) ∨ (k = 2 ∧ L = loQ (l * m) [l * n, h * m, h * n] ∧ H = hiQ (l * m) [l * n, h * m, h * n])
    ∨ (k = 3 ∧ ¬ (m ≤ 0 ∧ 0 ≤ n) ∧ L = loQ (l * n⁻¹) [l * m⁻¹, h * n⁻¹, h * m⁻¹] ∧ H = hiQ (l * n⁻¹) [l * m⁻¹, h * n⁻¹, h * m⁻¹])
theorem isSp_encl {k : Nat} {l h m n L H x y : Rat} (hs : isSp k l h m n L H) (h1 : l ≤ x) (h2 : x ≤ h) (h3 : m ≤ y) (h4 : y ≤ n) : L ≤ opQ k x y ∧ opQ k x y ≤ H := by
  rcases hs with ⟨rfl, rfl, rfl⟩ | ⟨rfl, rfl, rfl⟩ | ⟨rfl, rfl, rfl⟩ | ⟨rfl, hz, rfl, rfl⟩
  · rw [show opQ 0 x y = x + y from rfl]; grind
  · rw [show opQ 1 x y = x - y from rfl]; grind
  · exact encl_mul h1 h2 h3 h4
  · exact encl_div h1 h2 h3 h4 hz
theorem isSp_lo {k : Nat} {l h m n L H : Rat} (hs : isSp k l h m n L H) : L = opQ k l m ∨ L = opQ k h m ∨ L = opQ k l n ∨ L = opQ k h n := by
  rcases hs with ⟨rfl, rfl, rfl⟩ | ⟨rfl, rfl, rfl⟩ | ⟨rfl, rfl, rfl⟩ | ⟨rfl, hz, rfl, rfl⟩
  · exact .inl rfl
  · exact .inr (.inr (.inl rfl))
  · obtain ⟨-, -, -, -, e | e | e | e⟩ := loQ3 (l * m) (l * n) (h * m) (h * n)
    · exact .inl e
    · exact .inr (.inr (.inl e))
    · exact .inr (.inl e)
    · exact .inr (.inr (.inr e))
  · have e0 : ∀ x y : Rat, opQ 3 x y = x * y⁻¹ := fun x y => (show opQ 3 x y = x / y from rfl).trans (Rat.div_def _ _)
    rw [e0, e0, e0, e0]
    obtain ⟨-, -, -, -, e | e | e | e⟩ := loQ3 (l * n⁻¹) (l * m⁻¹) (h * n⁻¹) (h * m⁻¹)
    · exact .inr (.inr (.inl e))
    · exact .inl e
    · exact .inr (.inr (.inr e))
    · exact .inr (.inl e)
theorem isSp_hi {k : Nat} {l h m n L H : Rat} (hs : isSp k l h m n L H) : H = opQ k l m ∨ H = opQ k h m ∨ H = opQ k l n ∨ H = opQ k h n := by
  rcases hs with ⟨rfl, rfl, rfl⟩ | ⟨rfl, rfl, rfl⟩ | ⟨rfl, rfl, rfl⟩ | ⟨rfl, hz, rfl, rfl⟩
  · exact .inr (.inr (.inr rfl))
  · exact .inr (.inl rfl)
  · obtain ⟨-, -, -, -, e | e | e | e⟩ := hiQ3 (l * m) (l * n) (h * m) (h * n)
    · exact .inl e
    · exact .inr (.inr (.inl e))
    · exact .inr (.inl e)
    · exact .inr (.inr (.inr e))
  · have e0 : ∀ x y : Rat, opQ 3 x y = x * y⁻¹ := fun x y => (show opQ 3 x y = x / y from rfl).trans (Rat.div_def _ _)
    rw [e0, e0, e0, e0]
    obtain ⟨-, -, -, -, e | e | e | e⟩ := hiQ3 (l * n⁻¹) (l * m⁻¹) (h * n⁻¹) (h * m⁻¹)
    · exact .inr (.inr (.inl e))
    · exact .inl e
    · exact .inr (.inr (.inr e))
    · exact .inr (.inl e)
/-- What is made of narrower enclosures lies within. -/
theorem isSp_within {k : Nat} {l h m n L H l' h' m' n' L' H' : Rat} (hs : isSp k l h m n L H) (hs' : isSp k l' h' m' n' L' H') (h1 : l ≤ l') (h2 : l' ≤ h) (h3 : l ≤ h') (h4 : h' ≤ h) (h5 : m ≤ m') (h6 : m' ≤ n) (h7 : m ≤ n') (h8 : n' ≤ n) :
    (L ≤ L' ∧ L' ≤ H) ∧ (L ≤ H' ∧ H' ≤ H) := by
  refine ⟨?_, ?_⟩
  · rcases isSp_lo hs' with rfl | rfl | rfl | rfl <;> exact isSp_encl hs (by assumption) (by assumption) (by assumption) (by assumption)
  · rcases isSp_hi hs' with rfl | rfl | rfl | rfl <;> exact isSp_encl hs (by assumption) (by assumption) (by assumption) (by assumption)

end Go.Proofs.Ytdimmnoflenfhaa
/-
  Layer 1: what two enclosures share, for valid ones.
-/
namespace Go.Proofs.Ytdimmnoflenfhaa
open Go.RowKit

theorem hi1 (l m z : Rat) : hiQ l [m] ≤ z ↔ l ≤ z ∧ m ≤ z := by
  unfold hiQ; simp only [List.foldl_cons, List.foldl_nil]; grind
theorem lo1 (h n z : Rat) : z ≤ loQ h [n] ↔ z ≤ h ∧ z ≤ n := by
  unfold loQ; simp only [List.foldl_cons, List.foldl_nil]; grind
theorem hull1 (l m : Rat) (fl : fits l) (fm : fits m) (B : Nat) (w : World) (h0 : w.cell? ⟨B, 0, none⟩ = some (.int .i64 (fn m))) (h1 : w.cell? ⟨B, 1, none⟩ = some (.int .i64 (fd m))) :
    Calls Try.prog 93 #[.agg #[.int .i64 (fn l), .int .i64 (fd l)], .slice (some ⟨B, 0, none⟩) 1 1] w fun e w' => e = .returned (.agg #[.int .i64 (fn (loQ l [m])), .int .i64 (fd (loQ l [m])), .int .i64 (fn (hiQ l [m])), .int .i64 (fd (hiQ l [m]))]) ∧ Below w.heap.size w w' := by
  refine hull_any l [m] fl (by intro x hx; simp at hx; subst hx; exact fm) B 0 1 1 rfl (by omega) (by omega) w (fun i hi => ?_)
  obtain rfl : i = 0 := by omega
  exact ⟨h0, h1⟩
theorem meet_q (l h m n : Rat) (fl : fits l) (fh : fits h) (fm : fits m) (fn' : fits n) (hlh : l ≤ h) (hmn : m ≤ n) :
    ∃ A B C D E, (∀ w, Calls Try.prog 64 #[.agg #[.int .i64 (fn l), .int .i64 (fd l), .int .i64 (fn h), .int .i64 (fd h)], .agg #[.int .i64 (fn m), .int .i64 (fd m), .int .i64 (fn n), .int .i64 (fd n)]] w fun e w' => e = .returned (.tuple #[.agg #[.int .i64 A, .int .i64 B, .int .i64 C, .int .i64 D], .int .i64 E]) ∧ Below w.heap.size w w') ∧
      ((E = 6 ∧ ¬ hiQ l [m] ≤ loQ h [n]) ∨ (E = 0 ∧ hiQ l [m] ≤ loQ h [n] ∧ A = fn (hiQ l [m]) ∧ B = fd (hiQ l [m]) ∧ C = fn (loQ h [n]) ∧ D = fd (loQ h [n]))) := by
  have fL : fits (hiQ l [m]) := hiQ_fits l fl [m] (by intro x hx; simp at hx; subst hx; exact fm)
  have fH : fits (loQ h [n]) := loQ_fits h fh [n] (by intro x hx; simp at hx; subst hx; exact fn')
  have HU := hull1 l m fl fm
  have HV := hull1 h n fh fn'
  have hd : (ckS2 (fn l) (fd l) (fn h) (fd h) (fn m) (fd m) (fn n) (fd n) != 0) = false := by rw [ckS2_ok ⟨l, h, fl, fh, rfl, rfl, rfl, rfl, hlh⟩ ⟨m, n, fm, fn', rfl, rfl, rfl, rfl, hmn⟩]; rfl
  by_cases c : hiQ l [m] ≤ loQ h [n]
  · exact ⟨_, _, _, _, 0, fun w => meet_walk _ _ _ _ _ _ _ _ _ _ _ _ _ _ _ _ _ _ _ _ _ _ w hd HU HV (order_q _ _ fL fH) (.inr ⟨fun k => absurd (ordQ_gt.1 k) (Rat.not_lt.2 c), rfl, rfl, rfl, rfl, rfl⟩), .inr ⟨rfl, c, rfl, rfl, rfl, rfl⟩⟩
  · exact ⟨_, _, _, _, 6, fun w => meet_walk _ _ _ _ _ _ _ _ _ _ _ _ _ _ _ _ _ _ _ _ _ _ w hd HU HV (order_q _ _ fL fH) (.inl ⟨ordQ_gt.2 (Rat.not_le.1 c), rfl, rfl, rfl, rfl, rfl⟩), .inl ⟨rfl, c⟩⟩
end Go.Proofs.Ytdimmnoflenfhaa
/-
  Layer 5: Rise, Fall and Width, by the code.
-/
namespace Go.Proofs.Ytdimmnoflenfhaa
open Go.RowKit Go.Shelf
set_option linter.unusedVariables false
set_option linter.unusedSimpArgs false

/-- The parts of a span, if there is one; otherwise 0. -/
def s1 : Option (Rat × Rat) → Int
  | none => 0
  | some s => fn s.1
def s2 : Option (Rat × Rat) → Int
  | none => 0
  | some s => fd s.1
def s3 : Option (Rat × Rat) → Int
  | none => 0
  | some s => fn s.2
def s4 : Option (Rat × Rat) → Int
  | none => 0
  | some s => fd s.2
/-- Two numbers, if there are two. -/
def both : Option Rat → Option Rat → Option (Rat × Rat)
  | some x, some y => some (x, y)
  | _, _ => none
def riS (t : Int) (zs : List Int) (p n : Int) : Option (Rat × Rat) := if okP zs ∧ okN n ∧ okT t ∧ inL zs p then both (FX t (upL n zs) p.toNat) (FX t (lwL n zs) p.toNat) else none
def wiS (t : Int) (zs : List Int) (n : Int) : Option (Rat × Rat) := if okP zs ∧ okN n ∧ okT t then both (WX t (lwL n zs)) (WX t (upL n zs)) else none
def riE (t : Int) (zs : List Int) (p n : Int) : Int := asE zs (okN n ∧ okT t ∧ inL zs p) (FX t (lwL n zs) p.toNat).isSome
def wiE (t : Int) (zs : List Int) (n : Int) : Int := asE zs (okN n ∧ okT t) (WX t (lwL n zs)).isSome

theorem lt_of_cell {w : World} {b o : Nat} {v : Value} (h : w.cell? ⟨b, o, none⟩ = some v) : b < w.heap.size := by
  unfold World.cell? at h
  by_cases hb : b < w.heap.size
  · exact hb
  · simp [Array.getElem?_eq_none (show w.heap.size ≤ b by omega)] at h
theorem Row.of_ints {w : World} {b n : Nat} {zs : List Int} {t : TypeId} (hl : zs.length = n) (h : Blk w b (ints zs) t) : Row w (some ⟨b, 0, none⟩) n (iv zs) := by
  rw [← hl]; exact Row.of_blk h
theorem inL_of {zs ys : List Int} {p : Int} (h : ys.length = zs.length) : inL ys p ↔ inL zs p := by unfold inL; rw [h]

set_option maxHeartbeats 1000000 in
theorem ri1_any (a : Option Addr) (n c : Nat) (zs : List Int) (t p : Int) (B C : Nat) (hn : n ≤ maxLen) (w : World) (hR : Row w a n (iv zs)) (hc : w.cell? ⟨B, 0, none⟩ = some (.int .i64 t)) (hd : w.cell? ⟨C, 0, none⟩ = some (.int .i64 p)) :
    Calls Try.prog 44 #[.slice a n c, .pointer (some ⟨B, 0, none⟩), .pointer (some ⟨C, 0, none⟩)] w fun e w' => e = .returned (.tuple #[.agg #[.int .i64 (oN (fiO t zs p)), .int .i64 (oD (fiO t zs p))], .int .i64 (fiE t zs p)]) ∧ Below w.heap.size w w' := by
  have HN := Lib.hid (fun w => first_any a n c zs t p hn w)
  have HR := Lib.hid hR
  obtain ⟨A, hA⟩ : ∃ A, oN (fiO t zs p) = A := ⟨_, rfl⟩
  obtain ⟨D, hD⟩ : ∃ B, oD (fiO t zs p) = B := ⟨_, rfl⟩
  obtain ⟨E, hE⟩ : ∃ E, fiE t zs p = E := ⟨_, rfl⟩
  rw [hA, hD, hE] at HN ⊢
  have hBl := lt_of_cell hc; have hCl := lt_of_cell hd
  clear hA hD hE hR
  go_enter Try.func44, Try.ntmps44
  go_wp2_with (go_at_call 9; (with_reducible refine (HN.out _ (HR.out.later (by (repeat' (first | (with_reducible exact Below.refl _ _) | (with_reducible assumption) | (with_reducible refine belowThru ?_ (by assumption)) | (with_reducible refine belowAlloc ?_) | (with_reducible refine Below.setCell ?_ (by first | omega | (simp; done) | (simp; omega)) _) | (with_reducible refine Below.drew ?_) | (with_reducible refine below_drewN ?_ _)))))).mono ?_); rintro e w1 ⟨rfl, hb⟩; (first | ((with_reducible have k0 := Blk.later hb (Blk.new rfl)); skip; obtain ⟨a0, b0⟩ := k0.read; have zl := k0.lt) | ((try (have zk := k0.lt; (first | ((with_reducible refine Blk.keepG hb k0 (fun h => ?_) ?_); (focus ((repeat' (first | (with_reducible assumption) | ((with_reducible refine Blk.new ?_); first | rfl | (simp; done)) | (with_reducible refine Blk.later (by assumption) ?_) | (with_reducible refine Blk.alloc ?_) | (with_reducible refine Blk.drewN ?_) | (with_reducible refine Blk.drew ?_) | (with_reducible refine Blk.other ?_ (by first | omega | (simp; done) | (simp; omega))))); done)); clear k0; intro k0) | (with_reducible replace k0 := Blk.later hb (Blk.set (Blk.set k0))) | (with_reducible replace k0 := Blk.later hb (Blk.set k0))); clear a0 b0; obtain ⟨a0, b0⟩ := k0.read; have zl := k0.lt)))))
  exact bodyPost_ret (v := .tuple #[.agg #[.int .i64 A, .int .i64 D], .int .i64 E]) (by simp only [results, Try.results44]; go_simp) rfl ⟨rfl, by (repeat' (first | (with_reducible exact Below.refl _ _) | (with_reducible assumption) | (with_reducible refine belowThru ?_ (by assumption)) | (with_reducible refine belowAlloc ?_) | (with_reducible refine Below.setCell ?_ (by first | omega | (simp; done) | (simp; omega)) _) | (with_reducible refine Below.drew ?_) | (with_reducible refine below_drewN ?_ _)))⟩
/-- Where nothing is found, or what is asked for is wrong. -/
theorem fiO_bad {t : Int} {zs : List Int} {p : Int} (h : ¬ (okP zs ∧ okT t ∧ inL zs p)) : fiO t zs p = none := if_neg h
theorem fiO_ok {t : Int} {zs : List Int} {p : Int} (h : okP zs ∧ okT t ∧ inL zs p) : fiO t zs p = FX t zs p.toNat := if_pos h
theorem laO_ok {t : Int} {zs : List Int} {p : Int} (h : okP zs ∧ okT t ∧ inL zs p) : laO t zs p = LX t zs p.toNat := if_pos h
end Go.Proofs.Ytdimmnoflenfhaa
/-
  Layer 5: Rise, Fall and Width for any arguments.
-/
namespace Go.Proofs.Ytdimmnoflenfhaa
open Go.RowKit Go.Shelf
set_option linter.unusedVariables false
set_option linter.unusedSimpArgs false

set_option maxHeartbeats 2000000 in
theorem ext_no (a : Option Addr) (n c : Nat) (t E : Int) (hn : n ≤ maxLen) (zs : List Int) (hE : (E != 0) = true) (w : World) (hR : Row w a n (iv zs))
    (HF : Hid (∀ w, Row w a n (iv zs) → Calls Try.prog 9 #[.slice a n c, .int .i64 t, .int .i64 0] w fun e w' => e = .returned (.tuple #[.agg #[.int .i64 0, .int .i64 0], .int .i64 E]) ∧ Below w.heap.size w w')) :
    Calls Try.prog 62 #[.slice a n c, .int .i64 t] w fun e w' => e = .returned (.tuple #[.agg #[.int .i64 0, .int .i64 0], .int .i64 E]) ∧ Below w.heap.size w w' := by
  have HR := Lib.hid hR
  clear hR
  go_enter Try.func62, Try.ntmps62
  go_wp2_with fail
  refine (HF.out _ (HR.out.later (by (repeat' (first | (with_reducible exact Below.refl _ _) | (with_reducible assumption) | (with_reducible refine belowThru ?_ (by assumption)) | (with_reducible refine belowAlloc ?_) | (with_reducible refine Below.setCell ?_ (by first | omega | (simp; done) | (simp; omega)) _) | (with_reducible refine Below.drew ?_) | (with_reducible refine below_drewN ?_ _)))))).mono ?_
  rintro e w1 ⟨rfl, hb⟩
  have k0 : Blk w1 w.heap.size #[.int .i64 0, .int .i64 0] 23 := Blk.later hb (by (repeat' (first | (with_reducible assumption) | ((with_reducible refine Blk.new ?_); first | rfl | (simp; done)) | (with_reducible refine Blk.later (by assumption) ?_) | (with_reducible refine Blk.alloc ?_) | (with_reducible refine Blk.drewN ?_) | (with_reducible refine Blk.drew ?_) | (with_reducible refine Blk.other ?_ (by first | omega | (simp; done) | (simp; omega))))))
  have hB1 : Below w.heap.size w w1 := by (repeat' (first | (with_reducible exact Below.refl _ _) | (with_reducible assumption) | (with_reducible refine belowThru ?_ (by assumption)) | (with_reducible refine belowAlloc ?_) | (with_reducible refine Below.setCell ?_ (by first | omega | (simp; done) | (simp; omega)) _) | (with_reducible refine Below.drew ?_) | (with_reducible refine below_drewN ?_ _)))
  obtain ⟨a0, b0⟩ := k0.read
  have y0 := k0.lt
  clear hb
  go_wp2
  exact bodyPost_ret (v := .tuple #[.agg #[.int .i64 0, .int .i64 0], .int .i64 E]) (by simp only [results, Try.results62]; go_simp) rfl ⟨rfl, by (repeat' (first | (with_reducible exact Below.refl _ _) | (with_reducible assumption) | (with_reducible refine belowThru ?_ (by assumption)) | (with_reducible refine belowAlloc ?_) | (with_reducible refine Below.setCell ?_ (by first | omega | (simp; done) | (simp; omega)) _) | (with_reducible refine Below.drew ?_) | (with_reducible refine below_drewN ?_ _)))⟩
set_option maxHeartbeats 2000000 in
theorem ext_yes (a : Option Addr) (n c : Nat) (t A B C D X Y e2 : Int) (hn : n ≤ 64) (zs : List Int) (w : World) (hR : Row w a n (iv zs))
    (HF : Hid (∀ w, Row w a n (iv zs) → Calls Try.prog 9 #[.slice a n c, .int .i64 t, .int .i64 0] w fun e w' => e = .returned (.tuple #[.agg #[.int .i64 A, .int .i64 B], .int .i64 0]) ∧ Below w.heap.size w w'))
    (HL : Hid (∀ w, Row w a n (iv zs) → Calls Try.prog 11 #[.slice a n c, .int .i64 t, .int .i64 ((n : Int) - 1)] w fun e w' => e = .returned (.tuple #[.agg #[.int .i64 C, .int .i64 D], .int .i64 e2]) ∧ Below w.heap.size w w'))
    (HS : Hid (∀ w, Calls Try.prog 90 #[.agg #[.int .i64 C, .int .i64 D], .agg #[.int .i64 A, .int .i64 B]] w fun e w' => e = .returned (.tuple #[.agg #[.int .i64 X, .int .i64 Y], .int .i64 0]) ∧ Below w.heap.size w w')) :
    Calls Try.prog 62 #[.slice a n c, .int .i64 t] w fun e w' => e = .returned (.tuple #[.agg #[.int .i64 X, .int .i64 Y], .int .i64 0]) ∧ Below w.heap.size w w' := by
  have HR := Lib.hid hR
  have hw1 : IntKind.i64.wrap ((n : Int) - 1) = (n : Int) - 1 := IntWalk.i64_in _ (by omega)
  clear hR
  go_enter Try.func62, Try.ntmps62
  go_wp2_with fail
  refine (HF.out _ (HR.out.later (by (repeat' (first | (with_reducible exact Below.refl _ _) | (with_reducible assumption) | (with_reducible refine belowThru ?_ (by assumption)) | (with_reducible refine belowAlloc ?_) | (with_reducible refine Below.setCell ?_ (by first | omega | (simp; done) | (simp; omega)) _) | (with_reducible refine Below.drew ?_) | (with_reducible refine below_drewN ?_ _)))))).mono ?_
  rintro e w1 ⟨rfl, hb⟩
  have k0 : Blk w1 w.heap.size #[.int .i64 0, .int .i64 0] 23 := Blk.later hb (by (repeat' (first | (with_reducible assumption) | ((with_reducible refine Blk.new ?_); first | rfl | (simp; done)) | (with_reducible refine Blk.later (by assumption) ?_) | (with_reducible refine Blk.alloc ?_) | (with_reducible refine Blk.drewN ?_) | (with_reducible refine Blk.drew ?_) | (with_reducible refine Blk.other ?_ (by first | omega | (simp; done) | (simp; omega))))))
  have hB1 : Below w.heap.size w w1 := by (repeat' (first | (with_reducible exact Below.refl _ _) | (with_reducible assumption) | (with_reducible refine belowThru ?_ (by assumption)) | (with_reducible refine belowAlloc ?_) | (with_reducible refine Below.setCell ?_ (by first | omega | (simp; done) | (simp; omega)) _) | (with_reducible refine Below.drew ?_) | (with_reducible refine below_drewN ?_ _)))
  have y0 := k0.lt
  clear hb
  go_wp2_with fail
  refine (HL.out _ (HR.out.later (by (repeat' (first | (with_reducible exact Below.refl _ _) | (with_reducible assumption) | (with_reducible refine belowThru ?_ (by assumption)) | (with_reducible refine belowAlloc ?_) | (with_reducible refine Below.setCell ?_ (by first | omega | (simp; done) | (simp; omega)) _) | (with_reducible refine Below.drew ?_) | (with_reducible refine below_drewN ?_ _)))))).mono ?_
  rintro e w2 ⟨rfl, hb⟩
  replace k0 : Blk w2 w.heap.size #[.int .i64 0, .int .i64 0] 23 := Blk.later hb (by (repeat' (first | (with_reducible assumption) | ((with_reducible refine Blk.new ?_); first | rfl | (simp; done)) | (with_reducible refine Blk.later (by assumption) ?_) | (with_reducible refine Blk.alloc ?_) | (with_reducible refine Blk.drewN ?_) | (with_reducible refine Blk.drew ?_) | (with_reducible refine Blk.other ?_ (by first | omega | (simp; done) | (simp; omega))))))
  have k1 : Blk w2 w1.heap.size #[.int .i64 A, .int .i64 B] 23 := Blk.later hb (by (repeat' (first | (with_reducible assumption) | ((with_reducible refine Blk.new ?_); first | rfl | (simp; done)) | (with_reducible refine Blk.later (by assumption) ?_) | (with_reducible refine Blk.alloc ?_) | (with_reducible refine Blk.drewN ?_) | (with_reducible refine Blk.drew ?_) | (with_reducible refine Blk.other ?_ (by first | omega | (simp; done) | (simp; omega))))))
  have hB2 : Below w.heap.size w w2 := by (repeat' (first | (with_reducible exact Below.refl _ _) | (with_reducible assumption) | (with_reducible refine belowThru ?_ (by assumption)) | (with_reducible refine belowAlloc ?_) | (with_reducible refine Below.setCell ?_ (by first | omega | (simp; done) | (simp; omega)) _) | (with_reducible refine Below.drew ?_) | (with_reducible refine below_drewN ?_ _)))
  have y1 := k1.lt
  obtain ⟨a0, b0⟩ := k0.read
  obtain ⟨a1, b1⟩ := k1.read
  have y2 := k0.lt
  clear hb hB1
  go_wp2_with fail
  refine (HS.out _).mono ?_
  rintro e w3 ⟨rfl, hb⟩
  replace k0 : Blk w3 w.heap.size #[.int .i64 0, .int .i64 0] 23 := Blk.later hb (by (repeat' (first | (with_reducible assumption) | ((with_reducible refine Blk.new ?_); first | rfl | (simp; done)) | (with_reducible refine Blk.later (by assumption) ?_) | (with_reducible refine Blk.alloc ?_) | (with_reducible refine Blk.drewN ?_) | (with_reducible refine Blk.drew ?_) | (with_reducible refine Blk.other ?_ (by first | omega | (simp; done) | (simp; omega))))))
  have hB3 : Below w.heap.size w w3 := by (repeat' (first | (with_reducible exact Below.refl _ _) | (with_reducible assumption) | (with_reducible refine belowThru ?_ (by assumption)) | (with_reducible refine belowAlloc ?_) | (with_reducible refine Below.setCell ?_ (by first | omega | (simp; done) | (simp; omega)) _) | (with_reducible refine Below.drew ?_) | (with_reducible refine below_drewN ?_ _)))
  clear a0 b0 a1 b1
  obtain ⟨a0, b0⟩ := k0.read
  go_wp2
  exact bodyPost_ret (v := .tuple #[.agg #[.int .i64 X, .int .i64 Y], .int .i64 0]) (by simp only [results, Try.results62]; go_simp) rfl ⟨rfl, by (repeat' (first | (with_reducible exact Below.refl _ _) | (with_reducible assumption) | (with_reducible refine belowThru ?_ (by assumption)) | (with_reducible refine belowAlloc ?_) | (with_reducible refine Below.setCell ?_ (by first | omega | (simp; done) | (simp; omega)) _) | (with_reducible refine Below.drew ?_) | (with_reducible refine below_drewN ?_ _)))⟩
/-- What extent returns for a valid profile. -/
def exO (t : Int) (zs : List Int) : Option Rat := if okT t then WX t zs else none
def exE (t : Int) (zs : List Int) : Int := if okT t then (if (WX t zs).isSome then 0 else 6) else 2
theorem ext_any (a : Option Addr) (n c : Nat) (zs : List Int) (t : Int) (hz : okP zs) (hl : zs.length = n) (w : World) (hR : Row w a n (iv zs)) :
    Calls Try.prog 62 #[.slice a n c, .int .i64 t] w fun e w' => e = .returned (.tuple #[.agg #[.int .i64 (oN (exO t zs)), .int .i64 (oD (exO t zs))], .int .i64 (exE t zs)]) ∧ Below w.heap.size w w' := by
  have hn : n ≤ maxLen := by have := hz.1.2; unfold maxLen; omega
  have hl2 := hz.1
  have HF := fun w => first_any a n c zs t 0 hn w
  have HL := fun w => last_any a n c zs t ((n : Int) - 1) hn w
  have i0 : inL zs 0 := ⟨by omega, by omega⟩
  have i1 : inL zs ((n : Int) - 1) := ⟨by omega, by omega⟩
  unfold exO exE
  by_cases ht : okT t
  · rw [if_pos ht, if_pos ht]
    rw [fiO_ok ⟨hz, ht, i0⟩, show fiE t zs 0 = _ from asE_ok hz ⟨ht, i0⟩] at HF
    rw [laO_ok ⟨hz, ht, i1⟩, show laE t zs ((n : Int) - 1) = _ from asE_ok hz ⟨ht, i1⟩] at HL
    have e0 : (0 : Int).toNat = 0 := rfl
    have e1 : ((n : Int) - 1).toNat = zs.length - 1 := by omega
    rw [e0] at HF
    rw [e1] at HL
    cases hx : FX t zs 0 with
    | none =>
      rw [(WX_none (by omega)).2 hx]
      rw [hx] at HF
      exact ext_no a n c t 6 hn zs rfl w hR HF
    | some x =>
      obtain ⟨y, hy⟩ := LX_of_FX (by omega) hx
      have hw : WX t zs = some (y - x) := WX_some.2 ⟨x, y, hx, hy, rfl⟩
      have fx := (FX_fits hz ht.1 (by omega) hx).2
      have fy := (LX_fits hz ht.1 (by omega) hy).2
      have fw := (WX_fits hz ht.1 hw).2
      rw [hw]
      rw [hx] at HF
      rw [hy] at HL
      have HS := fun w => sub_q y x fy fx w
      rw [rn_yes fw, rd_yes fw, re_yes fw] at HS
      exact ext_yes a n c t (fn x) (fd x) (fn y) (fd y) (fn (y - x)) (fd (y - x)) _ (by omega) zs w hR HF HL HS
  · rw [if_neg ht, if_neg ht]
    rw [fiO_bad (fun h => ht h.2.1), show fiE t zs 0 = _ from asE_arg hz (fun h => ht h.1)] at HF
    exact ext_no a n c t 2 hn zs rfl w hR HF
set_option maxHeartbeats 1000000 in
theorem wi1_any (a : Option Addr) (n c : Nat) (zs : List Int) (t : Int) (B : Nat) (hz : okP zs) (hl : zs.length = n) (w : World) (hR : Row w a n (iv zs)) (hc : w.cell? ⟨B, 0, none⟩ = some (.int .i64 t)) :
    Calls Try.prog 61 #[.slice a n c, .pointer (some ⟨B, 0, none⟩)] w fun e w' => e = .returned (.tuple #[.agg #[.int .i64 (oN (exO t zs)), .int .i64 (oD (exO t zs))], .int .i64 (exE t zs)]) ∧ Below w.heap.size w w' := by
  have HN := Lib.hid (fun w => ext_any a n c zs t hz hl w)
  have HR := Lib.hid hR
  obtain ⟨A, hA⟩ : ∃ A, oN (exO t zs) = A := ⟨_, rfl⟩
  obtain ⟨D, hD⟩ : ∃ B, oD (exO t zs) = B := ⟨_, rfl⟩
  obtain ⟨E, hE⟩ : ∃ E, exE t zs = E := ⟨_, rfl⟩
  rw [hA, hD, hE] at HN ⊢
  have hBl := lt_of_cell hc
  clear hA hD hE hR
  go_enter Try.func61, Try.ntmps61
  go_wp2_with (go_at_call 62; (with_reducible refine (HN.out _ (HR.out.later (by (repeat' (first | (with_reducible exact Below.refl _ _) | (with_reducible assumption) | (with_reducible refine belowThru ?_ (by assumption)) | (with_reducible refine belowAlloc ?_) | (with_reducible refine Below.setCell ?_ (by first | omega | (simp; done) | (simp; omega)) _) | (with_reducible refine Below.drew ?_) | (with_reducible refine below_drewN ?_ _)))))).mono ?_); rintro e w1 ⟨rfl, hb⟩; (first | ((with_reducible have k0 := Blk.later hb (Blk.new rfl)); skip; obtain ⟨a0, b0⟩ := k0.read; have zl := k0.lt) | ((try (have zk := k0.lt; (first | ((with_reducible refine Blk.keepG hb k0 (fun h => ?_) ?_); (focus ((repeat' (first | (with_reducible assumption) | ((with_reducible refine Blk.new ?_); first | rfl | (simp; done)) | (with_reducible refine Blk.later (by assumption) ?_) | (with_reducible refine Blk.alloc ?_) | (with_reducible refine Blk.drewN ?_) | (with_reducible refine Blk.drew ?_) | (with_reducible refine Blk.other ?_ (by first | omega | (simp; done) | (simp; omega))))); done)); clear k0; intro k0) | (with_reducible replace k0 := Blk.later hb (Blk.set (Blk.set k0))) | (with_reducible replace k0 := Blk.later hb (Blk.set k0))); clear a0 b0; obtain ⟨a0, b0⟩ := k0.read; have zl := k0.lt)))))
  exact bodyPost_ret (v := .tuple #[.agg #[.int .i64 A, .int .i64 D], .int .i64 E]) (by simp only [results, Try.results61]; go_simp) rfl ⟨rfl, by (repeat' (first | (with_reducible exact Below.refl _ _) | (with_reducible assumption) | (with_reducible refine belowThru ?_ (by assumption)) | (with_reducible refine belowAlloc ?_) | (with_reducible refine Below.setCell ?_ (by first | omega | (simp; done) | (simp; omega)) _) | (with_reducible refine Below.drew ?_) | (with_reducible refine below_drewN ?_ _)))⟩
end Go.Proofs.Ytdimmnoflenfhaa
/-
  Layer 5: Rise, Fall and Width for any arguments.
-/
namespace Go.Proofs.Ytdimmnoflenfhaa
open Go.RowKit Go.Shelf
set_option linter.unusedVariables false
set_option linter.unusedSimpArgs false

theorem encl_ri (a : Option Addr) (n c : Nat) (zs : List Int) (t p nz : Int) (B C : Nat) (hn : n ≤ maxLen) (w : World) (hR : Row w a n (iv zs)) (hc : w.cell? ⟨B, 0, none⟩ = some (.int .i64 t)) (hd : w.cell? ⟨C, 0, none⟩ = some (.int .i64 p)) :
    Calls Try.prog 42 #[.slice a n c, .int .i64 nz, .func (.func 44) #[] #[.pointer (some ⟨B, 0, none⟩), .pointer (some ⟨C, 0, none⟩)]] w fun e w' => e = .returned (.tuple #[.agg #[.int .i64 (s1 (riS t zs p nz)), .int .i64 (s2 (riS t zs p nz)), .int .i64 (s3 (riS t zs p nz)), .int .i64 (s4 (riS t zs p nz))], .int .i64 (riE t zs p nz)]) ∧ Below w.heap.size w w' := by
  have hl : zs.length = n := by have := hR.1; rwa [iv_length] at this
  have ef := enters_of Try.func44 (by kernel_rfl) rfl
  by_cases h1 : okP zs ∧ okN nz
  · have zl := lwL_ok h1.1 h1.2.1
    have zu := upL_ok h1.1 h1.2.1
    have HL : Hid (∀ (b : Nat) (W : World), Below w.heap.size w W → Blk W b (ints (lwL nz zs)) 3 → Calls Try.prog 44 (#[.slice (some ⟨b, 0, none⟩) n n] ++ #[.pointer (some ⟨B, 0, none⟩), .pointer (some ⟨C, 0, none⟩)]) W fun e W2 => e = .returned (.tuple #[.agg #[.int .i64 (oN (fiO t (lwL nz zs) p)), .int .i64 (oD (fiO t (lwL nz zs) p))], .int .i64 (fiE t (lwL nz zs) p)]) ∧ Below W.heap.size W W2) := fun b W hW hk =>
      ri1_any (some ⟨b, 0, none⟩) n n (lwL nz zs) t p B C hn W (Row.of_ints (by rw [lwL_length, hl]) hk) (cell_later hW hc) (cell_later hW hd)
    have HM : Hid (∀ (b : Nat) (W : World), Below w.heap.size w W → Blk W b (ints (upL nz zs)) 3 → Calls Try.prog 44 (#[.slice (some ⟨b, 0, none⟩) n n] ++ #[.pointer (some ⟨B, 0, none⟩), .pointer (some ⟨C, 0, none⟩)]) W fun e W2 => e = .returned (.tuple #[.agg #[.int .i64 (oN (fiO t (upL nz zs) p)), .int .i64 (oD (fiO t (upL nz zs) p))], .int .i64 (fiE t (upL nz zs) p)]) ∧ Below W.heap.size W W2) := fun b W hW hk =>
      ri1_any (some ⟨b, 0, none⟩) n n (upL nz zs) t p B C hn W (Row.of_ints (by rw [upL_length, hl]) hk) (cell_later hW hc) (cell_later hW hd)
    by_cases h2 : okT t ∧ inL zs p
    · have il : inL (lwL nz zs) p := (inL_of (lwL_length nz zs)).2 h2.2
      have iu : inL (upL nz zs) p := (inL_of (upL_length nz zs)).2 h2.2
      rw [fiO_ok ⟨zl, h2.1, il⟩, show fiE t (lwL nz zs) p = _ from asE_ok zl ⟨h2.1, il⟩] at HL
      rw [fiO_ok ⟨zu, h2.1, iu⟩, show fiE t (upL nz zs) p = _ from asE_ok zu ⟨h2.1, iu⟩] at HM
      have hp : p.toNat < zs.length := by have := h2.2.1; have := h2.2.2; omega
      have e1 : riS t zs p nz = _ := if_pos ⟨h1.1, h1.2, h2.1, h2.2⟩
      have e2 : riE t zs p nz = _ := asE_ok h1.1 ⟨h1.2, h2.1, h2.2⟩
      cases hx : FX t (lwL nz zs) p.toNat with
      | none =>
        rw [hx] at HL
        have e3 : riS t zs p nz = none := by rw [e1, hx]; unfold both; split <;> first | rfl | simp_all
        rw [e3, e2, hx]
        exact encl_none a n c zs nz _ _ ef h1.1 h1.2 6 rfl w hR HL
      | some x =>
        obtain ⟨y, hy, hyx⟩ := FX_le (lw_up h1.1.2 h1.2.1) hx
        have fx := (FX_fits zl h2.1.1 (by rw [lwL_length]; exact hp) hx).2
        have fy := (FX_fits zu h2.1.1 (by rw [upL_length]; exact hp) hy).2
        rw [hx] at HL
        rw [hy] at HM
        have e3 : riS t zs p nz = some (y, x) := by rw [e1, hx, hy]; rfl
        rw [e3, e2, hx]
        have h := encl_some a n c zs nz _ _ ef h1.1 h1.2 x y fx fy w hR HL HM
        rw [lo2_ge hyx, hi2_ge hyx] at h
        exact h
    · rw [fiO_bad (fun h => h2 ⟨h.2.1, (inL_of (lwL_length nz zs)).1 h.2.2⟩), show fiE t (lwL nz zs) p = _ from asE_arg zl (fun h => h2 ⟨h.1, (inL_of (lwL_length nz zs)).1 h.2⟩)] at HL
      have e1 : riS t zs p nz = none := if_neg (fun h => h2 h.2.2)
      have e2 : riE t zs p nz = 2 := asE_arg h1.1 (fun h => h2 h.2)
      rw [e1, e2]
      exact encl_none a n c zs nz _ _ ef h1.1 h1.2 2 rfl w hR HL
  · have e1 : riS t zs p nz = none := if_neg (fun h => h1 ⟨h.1, h.2.1⟩)
    have e2 : riE t zs p nz = if okP zs then 2 else 50 := by
      by_cases hz : okP zs
      · rw [if_pos hz]; exact asE_arg hz (fun h => h1 ⟨hz, h.1⟩)
      · rw [if_neg hz]; exact asE_no hz
    rw [e1, e2]
    exact encl_no a n c zs nz _ _ hn h1 w hR
set_option maxHeartbeats 1000000 in
theorem ri_any (a : Option Addr) (n c : Nat) (zs : List Int) (t p nz : Int) (hn : n ≤ maxLen) (w : World) (hR : Row w a n (iv zs)) :
    Calls Try.prog 13 #[.slice a n c, .int .i64 t, .int .i64 p, .int .i64 nz] w fun e w' => e = .returned (.tuple #[.agg #[.int .i64 (s1 (riS t zs p nz)), .int .i64 (s2 (riS t zs p nz)), .int .i64 (s3 (riS t zs p nz)), .int .i64 (s4 (riS t zs p nz))], .int .i64 (riE t zs p nz)]) ∧ Below w.heap.size w w' := by
  have HN := Lib.hid (fun B C w => encl_ri a n c zs t p nz B C hn w)
  have HR := Lib.hid hR
  obtain ⟨Z1, hZ1⟩ : ∃ z, s1 (riS t zs p nz) = z := ⟨_, rfl⟩
  obtain ⟨Z2, hZ2⟩ : ∃ z, s2 (riS t zs p nz) = z := ⟨_, rfl⟩
  obtain ⟨Z3, hZ3⟩ : ∃ z, s3 (riS t zs p nz) = z := ⟨_, rfl⟩
  obtain ⟨Z4, hZ4⟩ : ∃ z, s4 (riS t zs p nz) = z := ⟨_, rfl⟩
  obtain ⟨E, hE⟩ : ∃ z, riE t zs p nz = z := ⟨_, rfl⟩
  rw [hZ1, hZ2, hZ3, hZ4, hE] at HN ⊢
  clear hZ1 hZ2 hZ3 hZ4 hE hR
  go_enter Try.func13, Try.ntmps13
  go_wp2_with fail
  refine (HN.out _ _ _ (HR.out.later (by (repeat' (first | (with_reducible exact Below.refl _ _) | (with_reducible assumption) | (with_reducible refine belowThru ?_ (by assumption)) | (with_reducible refine belowAlloc ?_) | (with_reducible refine Below.setCell ?_ (by first | omega | (simp; done) | (simp; omega)) _) | (with_reducible refine Below.drew ?_) | (with_reducible refine below_drewN ?_ _))))) (by simp [go_sem]) (by simp [go_sem])).mono ?_
  rintro e w1 ⟨rfl, hb⟩
  have k0 : Blk w1 (w.heap.size + 1 + 1) #[.int .i64 0, .int .i64 0, .int .i64 0, .int .i64 0] 30 := Blk.later hb (Blk.new (by simp))
  obtain ⟨a0, b0⟩ := k0.read
  go_wp2
  exact bodyPost_ret (v := .tuple #[.agg #[.int .i64 Z1, .int .i64 Z2, .int .i64 Z3, .int .i64 Z4], .int .i64 E]) (by simp only [results, Try.results13]; go_simp) rfl ⟨rfl, by (repeat' (first | (with_reducible exact Below.refl _ _) | (with_reducible assumption) | (with_reducible refine belowThru ?_ (by assumption)) | (with_reducible refine belowAlloc ?_) | (with_reducible refine Below.setCell ?_ (by first | omega | (simp; done) | (simp; omega)) _) | (with_reducible refine Below.drew ?_) | (with_reducible refine below_drewN ?_ _)))⟩
theorem encl_wi (a : Option Addr) (n c : Nat) (zs : List Int) (t nz : Int) (B : Nat) (hn : n ≤ maxLen) (w : World) (hR : Row w a n (iv zs)) (hc : w.cell? ⟨B, 0, none⟩ = some (.int .i64 t)) :
    Calls Try.prog 42 #[.slice a n c, .int .i64 nz, .func (.func 61) #[] #[.pointer (some ⟨B, 0, none⟩)]] w fun e w' => e = .returned (.tuple #[.agg #[.int .i64 (s1 (wiS t zs nz)), .int .i64 (s2 (wiS t zs nz)), .int .i64 (s3 (wiS t zs nz)), .int .i64 (s4 (wiS t zs nz))], .int .i64 (wiE t zs nz)]) ∧ Below w.heap.size w w' := by
  have hl : zs.length = n := by have := hR.1; rwa [iv_length] at this
  have ef := enters_of Try.func61 (by kernel_rfl) rfl
  by_cases h1 : okP zs ∧ okN nz
  · have zl := lwL_ok h1.1 h1.2.1
    have zu := upL_ok h1.1 h1.2.1
    have hz0 := h1.1.1
    have HL : Hid (∀ (b : Nat) (W : World), Below w.heap.size w W → Blk W b (ints (lwL nz zs)) 3 → Calls Try.prog 61 (#[.slice (some ⟨b, 0, none⟩) n n] ++ #[.pointer (some ⟨B, 0, none⟩)]) W fun e W2 => e = .returned (.tuple #[.agg #[.int .i64 (oN (exO t (lwL nz zs))), .int .i64 (oD (exO t (lwL nz zs)))], .int .i64 (exE t (lwL nz zs))]) ∧ Below W.heap.size W W2) := fun b W hW hk =>
      wi1_any (some ⟨b, 0, none⟩) n n (lwL nz zs) t B zl (by rw [lwL_length, hl]) W (Row.of_ints (by rw [lwL_length, hl]) hk) (cell_later hW hc)
    have HM : Hid (∀ (b : Nat) (W : World), Below w.heap.size w W → Blk W b (ints (upL nz zs)) 3 → Calls Try.prog 61 (#[.slice (some ⟨b, 0, none⟩) n n] ++ #[.pointer (some ⟨B, 0, none⟩)]) W fun e W2 => e = .returned (.tuple #[.agg #[.int .i64 (oN (exO t (upL nz zs))), .int .i64 (oD (exO t (upL nz zs)))], .int .i64 (exE t (upL nz zs))]) ∧ Below W.heap.size W W2) := fun b W hW hk =>
      wi1_any (some ⟨b, 0, none⟩) n n (upL nz zs) t B zu (by rw [upL_length, hl]) W (Row.of_ints (by rw [upL_length, hl]) hk) (cell_later hW hc)
    by_cases h2 : okT t
    · rw [show exO t (lwL nz zs) = _ from if_pos h2, show exE t (lwL nz zs) = _ from if_pos h2] at HL
      rw [show exO t (upL nz zs) = _ from if_pos h2, show exE t (upL nz zs) = _ from if_pos h2] at HM
      have e1 : wiS t zs nz = _ := if_pos ⟨h1.1, h1.2, h2⟩
      have e2 : wiE t zs nz = _ := asE_ok h1.1 ⟨h1.2, h2⟩
      cases hx : WX t (lwL nz zs) with
      | none =>
        rw [hx] at HL
        have e3 : wiS t zs nz = none := by rw [e1, hx]; rfl
        rw [e3, e2, hx]
        exact encl_none a n c zs nz _ _ ef h1.1 h1.2 6 rfl w hR HL
      | some x =>
        obtain ⟨y, hy, hyx⟩ := WX_le (lw_up h1.1.2 h1.2.1) (by rw [lwL_length]; omega) hx
        have fx := (WX_fits zl h2.1 hx).2
        have fy := (WX_fits zu h2.1 hy).2
        rw [hx] at HL
        rw [hy] at HM
        have e3 : wiS t zs nz = some (x, y) := by rw [e1, hx, hy]; rfl
        rw [e3, e2, hx]
        have h := encl_some a n c zs nz _ _ ef h1.1 h1.2 x y fx fy w hR HL HM
        rw [lo2_le hyx, hi2_le hyx] at h
        exact h
    · rw [show exO t (lwL nz zs) = _ from if_neg h2, show exE t (lwL nz zs) = _ from if_neg h2] at HL
      have e1 : wiS t zs nz = none := if_neg (fun h => h2 h.2.2)
      have e2 : wiE t zs nz = 2 := asE_arg h1.1 (fun h => h2 h.2)
      rw [e1, e2]
      exact encl_none a n c zs nz _ _ ef h1.1 h1.2 2 rfl w hR HL
  · have e1 : wiS t zs nz = none := if_neg (fun h => h1 ⟨h.1, h.2.1⟩)
    have e2 : wiE t zs nz = if okP zs then 2 else 50 := by
      by_cases hz : okP zs
      · rw [if_pos hz]; exact asE_arg hz (fun h => h1 ⟨hz, h.1⟩)
      · rw [if_neg hz]; exact asE_no hz
    rw [e1, e2]
    exact encl_no a n c zs nz _ _ hn h1 w hR
set_option maxHeartbeats 1000000 in
theorem wi_any (a : Option Addr) (n c : Nat) (zs : List Int) (t nz : Int) (hn : n ≤ maxLen) (w : World) (hR : Row w a n (iv zs)) :
    Calls Try.prog 31 #[.slice a n c, .int .i64 t, .int .i64 nz] w fun e w' => e = .returned (.tuple #[.agg #[.int .i64 (s1 (wiS t zs nz)), .int .i64 (s2 (wiS t zs nz)), .int .i64 (s3 (wiS t zs nz)), .int .i64 (s4 (wiS t zs nz))], .int .i64 (wiE t zs nz)]) ∧ Below w.heap.size w w' := by
  have HN := Lib.hid (fun B w => encl_wi a n c zs t nz B hn w)
  have HR := Lib.hid hR
  obtain ⟨Z1, hZ1⟩ : ∃ z, s1 (wiS t zs nz) = z := ⟨_, rfl⟩
  obtain ⟨Z2, hZ2⟩ : ∃ z, s2 (wiS t zs nz) = z := ⟨_, rfl⟩
  obtain ⟨Z3, hZ3⟩ : ∃ z, s3 (wiS t zs nz) = z := ⟨_, rfl⟩
  obtain ⟨Z4, hZ4⟩ : ∃ z, s4 (wiS t zs nz) = z := ⟨_, rfl⟩
  obtain ⟨E, hE⟩ : ∃ z, wiE t zs nz = z := ⟨_, rfl⟩
  rw [hZ1, hZ2, hZ3, hZ4, hE] at HN ⊢
  clear hZ1 hZ2 hZ3 hZ4 hE hR
  go_enter Try.func31, Try.ntmps31
  go_wp2_with fail
  refine (HN.out _ _ (HR.out.later (by (repeat' (first | (with_reducible exact Below.refl _ _) | (with_reducible assumption) | (with_reducible refine belowThru ?_ (by assumption)) | (with_reducible refine belowAlloc ?_) | (with_reducible refine Below.setCell ?_ (by first | omega | (simp; done) | (simp; omega)) _) | (with_reducible refine Below.drew ?_) | (with_reducible refine below_drewN ?_ _))))) (by simp [go_sem])).mono ?_
  rintro e w1 ⟨rfl, hb⟩
  have k0 : Blk w1 (w.heap.size + 1) #[.int .i64 0, .int .i64 0, .int .i64 0, .int .i64 0] 30 := Blk.later hb (Blk.new (by simp))
  obtain ⟨a0, b0⟩ := k0.read
  go_wp2
  exact bodyPost_ret (v := .tuple #[.agg #[.int .i64 Z1, .int .i64 Z2, .int .i64 Z3, .int .i64 Z4], .int .i64 E]) (by simp only [results, Try.results31]; go_simp) rfl ⟨rfl, by (repeat' (first | (with_reducible exact Below.refl _ _) | (with_reducible assumption) | (with_reducible refine belowThru ?_ (by assumption)) | (with_reducible refine belowAlloc ?_) | (with_reducible refine Below.setCell ?_ (by first | omega | (simp; done) | (simp; omega)) _) | (with_reducible refine Below.drew ?_) | (with_reducible refine below_drewN ?_ _)))⟩
end Go.Proofs.Ytdimmnoflenfhaa
