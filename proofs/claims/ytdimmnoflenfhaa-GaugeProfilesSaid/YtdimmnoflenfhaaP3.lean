/-
  The texts that the laws of this seat share, merged: part 3.
-/
import Derived.BigQuiet
import Derived.Deep.CutBlock
import Derived.Deep.DeepCutAuto
import Derived.Deep.Draws
import Derived.Deep.LoopGhost
import Derived.Deep.OwnRows
import Derived.Deep.QuietTactic
import Derived.Deep.RegionHeld3
import Derived.Deep.RegionLaw
import Derived.IntWalk
import Derived.Laws.AppendOwn
import Derived.Laws.Bits64b
import Derived.Lib.Hide
import Derived.Lib.ItoaNum
import Derived.LoopIn
import Derived.LoopNIn
import Derived.LoopTactic
import Derived.Maps.AppendAt
import Derived.OneCell
import Derived.Orders
import Derived.OwnWalkIn
import Derived.RangeFuncBound
import Derived.RangeFuncCalls
import Derived.RangeFuncLeaves
import Derived.RangeFuncNested
import Derived.Shelf.Abstract
import Derived.Shelf.AbstractIn
import Derived.Shelf.Bits.Mul64
import Derived.Shelf.RegionOpen
import Derived.Shelf.Small.Bits
import Derived.Shelf.Spec.BitsCarry
import Derived.Shelf.Strconv.Itoa0
import Derived.TacticsInMore
import Derived.Test.YtdimmnoflenfhaaProg
import Derived.WalkKit
import Derived.WalkLawsBesides
import Derived.WalkSmall
import Derived.WalkSpells
import Derived.Test.YtdimmnoflenfhaaP1
import Derived.Test.YtdimmnoflenfhaaP2
/-
  The document's own answers, layer 1: signs, lowest terms.
-/
namespace Go.Proofs.Ytdimmnoflenfhaa
open Go.RowKit

set_option maxHeartbeats 400000 in
theorem rsign_any (n : Int) (w : World) :
    Calls Try.prog 116 #[.int .i64 n] w fun e w' => e = .returned (.int .i64 n.sign) ∧ w = w' := by
  rcases Int.lt_trichotomy n 0 with h | rfl | h
  · rw [Int.sign_eq_neg_one_of_neg h]
    go_enter Try.func116, Try.ntmps116
    go_wp2
    go_ret
    exact ⟨rfl, rfl⟩
  · go_enter Try.func116, Try.ntmps116
    go_wp2
    go_ret
    exact ⟨rfl, rfl⟩
  · rw [Int.sign_eq_one_of_pos h]
    have h' : ¬ n < 0 := by omega
    go_enter Try.func116, Try.ntmps116
    go_wp2
    go_ret
    exact ⟨rfl, rfl⟩

set_option maxHeartbeats 400000 in
theorem rfit_yes (a b : Int) (w : World) :
    Calls Try.prog 129 #[.agg #[.int .i64 a, .int .i64 b], .bool true] w fun e w' => e = .returned (.tuple #[.agg #[.int .i64 a, .int .i64 b], .int .i64 0]) ∧ Below w.heap.size w w' := by
  go_enter Try.func129, Try.ntmps129
  go_wp2
  exact bodyPost_ret (v := .tuple #[.agg #[.int .i64 a, .int .i64 b], .int .i64 0]) (by simp only [results, Try.results129]; go_simp) rfl ⟨rfl, by (repeat' (first | (with_reducible exact Below.refl _ _) | (with_reducible assumption) | (with_reducible refine belowThru ?_ (by assumption)) | (with_reducible refine belowAlloc ?_) | (with_reducible refine Below.setCell ?_ (by first | omega | (simp; done) | (simp; omega)) _) | (with_reducible refine Below.drew ?_) | (with_reducible refine below_drewN ?_ _)))⟩
set_option maxHeartbeats 400000 in
theorem rfit_no (a b : Int) (w : World) :
    Calls Try.prog 129 #[.agg #[.int .i64 a, .int .i64 b], .bool false] w fun e w' => e = .returned (.tuple #[.agg #[.int .i64 0, .int .i64 0], .int .i64 4]) ∧ Below w.heap.size w w' := by
  go_enter Try.func129, Try.ntmps129
  go_wp2
  exact bodyPost_ret (v := .tuple #[.agg #[.int .i64 0, .int .i64 0], .int .i64 4]) (by simp only [results, Try.results129]; go_simp) rfl ⟨rfl, by (repeat' (first | (with_reducible exact Below.refl _ _) | (with_reducible assumption) | (with_reducible refine belowThru ?_ (by assumption)) | (with_reducible refine belowAlloc ?_) | (with_reducible refine Below.setCell ?_ (by first | omega | (simp; done) | (simp; omega)) _) | (with_reducible refine Below.drew ?_) | (with_reducible refine below_drewN ?_ _)))⟩
theorem rfit_q (x : Rat) (w : World) :
    Calls Try.prog 129 #[.agg #[.int .i64 (rn x), .int .i64 (rd x)], .bool (decide (re x = 0))] w fun e w' => e = .returned (.tuple #[.agg #[.int .i64 (rn x), .int .i64 (rd x)], .int .i64 (re x)]) ∧ Below w.heap.size w w' := by
  unfold rn rd re
  by_cases h : fits x
  · simp only [if_pos h]; exact rfit_yes _ _ w
  · simp only [if_neg h]; exact rfit_no _ _ w

set_option maxRecDepth 100000 in
set_option maxHeartbeats 2000000 in
theorem lowest_walk (s u1 u0 v1 v0 g1 g0 nh nl dh dl t1 t2 t3 t4 A B : Int) (ok : Bool) (w : World)
    (HC : Hid (∀ w, Calls Try.prog 121 #[.agg #[.int .u64 u1, .int .u64 u0], .agg #[.int .u64 v1, .int .u64 v0]] w fun e w' => e = .returned (.agg #[.int .u64 g1, .int .u64 g0]) ∧ Below w.heap.size w w'))
    (HN : Hid (∀ w, Calls Try.prog 131 #[.agg #[.int .u64 u1, .int .u64 u0], .agg #[.int .u64 g1, .int .u64 g0]] w fun e w' => e = .returned (.tuple #[.agg #[.int .u64 nh, .int .u64 nl], .agg #[.int .u64 t1, .int .u64 t2]]) ∧ Below w.heap.size w w'))
    (HD : Hid (∀ w, Calls Try.prog 131 #[.agg #[.int .u64 v1, .int .u64 v0], .agg #[.int .u64 g1, .int .u64 g0]] w fun e w' => e = .returned (.tuple #[.agg #[.int .u64 dh, .int .u64 dl], .agg #[.int .u64 t3, .int .u64 t4]]) ∧ Below w.heap.size w w'))
    (hv : ((nh != 0) = true ∧ A = 0 ∧ B = 0 ∧ ok = false) ∨ (nh = 0 ∧ (dh != 0) = true ∧ A = 0 ∧ B = 0 ∧ ok = false) ∨ (nh = 0 ∧ dh = 0 ∧ 4611686018427387903 < nl ∧ A = 0 ∧ B = 0 ∧ ok = false) ∨
      (nh = 0 ∧ dh = 0 ∧ ¬ 4611686018427387903 < nl ∧ 4611686018427387903 < dl ∧ A = 0 ∧ B = 0 ∧ ok = false) ∨
      (nh = 0 ∧ dh = 0 ∧ ¬ 4611686018427387903 < nl ∧ ¬ 4611686018427387903 < dl ∧ s < 0 ∧ IntKind.i64.wrap nl = nl ∧ IntKind.i64.wrap (-nl) = A ∧ IntKind.i64.wrap dl = B ∧ ok = true) ∨
      (nh = 0 ∧ dh = 0 ∧ ¬ 4611686018427387903 < nl ∧ ¬ 4611686018427387903 < dl ∧ ¬ s < 0 ∧ IntKind.i64.wrap nl = A ∧ IntKind.i64.wrap dl = B ∧ ok = true)) :
    Calls Try.prog 117 #[.int .i64 s, .agg #[.int .u64 u1, .int .u64 u0], .agg #[.int .u64 v1, .int .u64 v0]] w fun e w' => e = .returned (.tuple #[.agg #[.int .i64 A, .int .i64 B], .bool ok]) ∧ Below w.heap.size w w' := by
  rcases hv with ⟨h1, rfl, rfl, rfl⟩ | ⟨rfl, h1, rfl, rfl, rfl⟩ | ⟨rfl, rfl, h1, rfl, rfl, rfl⟩ | ⟨rfl, rfl, h1, h2, rfl, rfl, rfl⟩ | ⟨rfl, rfl, h1, h2, h3, h4, h5, h6, rfl⟩ | ⟨rfl, rfl, h1, h2, h3, h4, h5, rfl⟩
  all_goals
    go_enter Try.func117, Try.ntmps117
    go_upto_region 3 with (first
      | (go_at_call 121; (with_reducible refine (HC.out _).mono ?_); rintro e w1 ⟨rfl, hb⟩; (first | ((with_reducible have k0 := Blk.later hb (Blk.alloc (Blk.alloc (Blk.new rfl)))); (with_reducible have k1 := Blk.later hb (Blk.alloc (Blk.new rfl))); (with_reducible have k2 := Blk.later hb (Blk.new rfl)); simp only [World.size_alloc] at k1 k2; obtain ⟨a0, b0⟩ := k0.read; have zl := k0.lt; obtain ⟨a1, b1⟩ := k1.read; have zl := k1.lt; obtain ⟨a2, b2⟩ := k2.read; have zl := k2.lt) | ((try (have zk := k0.lt; (first | ((with_reducible refine Blk.keepG hb k0 (fun h => ?_) ?_); (focus ((repeat' (first | (with_reducible assumption) | ((with_reducible refine Blk.new ?_); first | rfl | (simp; done)) | (with_reducible refine Blk.later (by assumption) ?_) | (with_reducible refine Blk.alloc ?_) | (with_reducible refine Blk.drewN ?_) | (with_reducible refine Blk.drew ?_) | (with_reducible refine Blk.other ?_ (by first | omega | (simp; done) | (simp; omega))))); done)); clear k0; intro k0) | (with_reducible replace k0 := Blk.later hb (Blk.set (Blk.set k0))) | (with_reducible replace k0 := Blk.later hb (Blk.set k0))); clear a0 b0; obtain ⟨a0, b0⟩ := k0.read; have zl := k0.lt)); (try (have zk := k1.lt; (first | ((with_reducible refine Blk.keepG hb k1 (fun h => ?_) ?_); (focus ((repeat' (first | (with_reducible assumption) | ((with_reducible refine Blk.new ?_); first | rfl | (simp; done)) | (with_reducible refine Blk.later (by assumption) ?_) | (with_reducible refine Blk.alloc ?_) | (with_reducible refine Blk.drewN ?_) | (with_reducible refine Blk.drew ?_) | (with_reducible refine Blk.other ?_ (by first | omega | (simp; done) | (simp; omega))))); done)); clear k1; intro k1) | (with_reducible replace k1 := Blk.later hb (Blk.set (Blk.set k1))) | (with_reducible replace k1 := Blk.later hb (Blk.set k1))); clear a1 b1; obtain ⟨a1, b1⟩ := k1.read; have zl := k1.lt)); (try (have zk := k2.lt; (first | ((with_reducible refine Blk.keepG hb k2 (fun h => ?_) ?_); (focus ((repeat' (first | (with_reducible assumption) | ((with_reducible refine Blk.new ?_); first | rfl | (simp; done)) | (with_reducible refine Blk.later (by assumption) ?_) | (with_reducible refine Blk.alloc ?_) | (with_reducible refine Blk.drewN ?_) | (with_reducible refine Blk.drew ?_) | (with_reducible refine Blk.other ?_ (by first | omega | (simp; done) | (simp; omega))))); done)); clear k2; intro k2) | (with_reducible replace k2 := Blk.later hb (Blk.set (Blk.set k2))) | (with_reducible replace k2 := Blk.later hb (Blk.set k2))); clear a2 b2; obtain ⟨a2, b2⟩ := k2.read; have zl := k2.lt)); (try (have zk := k3.lt; (first | ((with_reducible refine Blk.keepG hb k3 (fun h => ?_) ?_); (focus ((repeat' (first | (with_reducible assumption) | ((with_reducible refine Blk.new ?_); first | rfl | (simp; done)) | (with_reducible refine Blk.later (by assumption) ?_) | (with_reducible refine Blk.alloc ?_) | (with_reducible refine Blk.drewN ?_) | (with_reducible refine Blk.drew ?_) | (with_reducible refine Blk.other ?_ (by first | omega | (simp; done) | (simp; omega))))); done)); clear k3; intro k3) | (with_reducible replace k3 := Blk.later hb (Blk.set (Blk.set k3))) | (with_reducible replace k3 := Blk.later hb (Blk.set k3))); clear a3 b3; obtain ⟨a3, b3⟩ := k3.read; have zl := k3.lt)); (try (have zk := k4.lt; (first | ((with_reducible refine Blk.keepG hb k4 (fun h => ?_) ?_); (focus ((repeat' (first | (with_reducible assumption) | ((with_reducible refine Blk.new ?_); first | rfl | (simp; done)) | (with_reducible refine Blk.later (by assumption) ?_) | (with_reducible refine Blk.alloc ?_) | (with_reducible refine Blk.drewN ?_) | (with_reducible refine Blk.drew ?_) | (with_reducible refine Blk.other ?_ (by first | omega | (simp; done) | (simp; omega))))); done)); clear k4; intro k4) | (with_reducible replace k4 := Blk.later hb (Blk.set (Blk.set k4))) | (with_reducible replace k4 := Blk.later hb (Blk.set k4))); clear a4 b4; obtain ⟨a4, b4⟩ := k4.read; have zl := k4.lt)); (try (have zk := k5.lt; (first | ((with_reducible refine Blk.keepG hb k5 (fun h => ?_) ?_); (focus ((repeat' (first | (with_reducible assumption) | ((with_reducible refine Blk.new ?_); first | rfl | (simp; done)) | (with_reducible refine Blk.later (by assumption) ?_) | (with_reducible refine Blk.alloc ?_) | (with_reducible refine Blk.drewN ?_) | (with_reducible refine Blk.drew ?_) | (with_reducible refine Blk.other ?_ (by first | omega | (simp; done) | (simp; omega))))); done)); clear k5; intro k5) | (with_reducible replace k5 := Blk.later hb (Blk.set (Blk.set k5))) | (with_reducible replace k5 := Blk.later hb (Blk.set k5))); clear a5 b5; obtain ⟨a5, b5⟩ := k5.read; have zl := k5.lt)))))
      | (go_at_call 131; (with_reducible refine (HN.out _).mono ?_); rintro e w1 ⟨rfl, hb⟩; (try (have zk := k0.lt; (first | ((with_reducible refine Blk.keepG hb k0 (fun h => ?_) ?_); (focus ((repeat' (first | (with_reducible assumption) | ((with_reducible refine Blk.new ?_); first | rfl | (simp; done)) | (with_reducible refine Blk.later (by assumption) ?_) | (with_reducible refine Blk.alloc ?_) | (with_reducible refine Blk.drewN ?_) | (with_reducible refine Blk.drew ?_) | (with_reducible refine Blk.other ?_ (by first | omega | (simp; done) | (simp; omega))))); done)); clear k0; intro k0) | (with_reducible replace k0 := Blk.later hb (Blk.set (Blk.set k0))) | (with_reducible replace k0 := Blk.later hb (Blk.set k0))); clear a0 b0; obtain ⟨a0, b0⟩ := k0.read; have zl := k0.lt)); (try (have zk := k1.lt; (first | ((with_reducible refine Blk.keepG hb k1 (fun h => ?_) ?_); (focus ((repeat' (first | (with_reducible assumption) | ((with_reducible refine Blk.new ?_); first | rfl | (simp; done)) | (with_reducible refine Blk.later (by assumption) ?_) | (with_reducible refine Blk.alloc ?_) | (with_reducible refine Blk.drewN ?_) | (with_reducible refine Blk.drew ?_) | (with_reducible refine Blk.other ?_ (by first | omega | (simp; done) | (simp; omega))))); done)); clear k1; intro k1) | (with_reducible replace k1 := Blk.later hb (Blk.set (Blk.set k1))) | (with_reducible replace k1 := Blk.later hb (Blk.set k1))); clear a1 b1; obtain ⟨a1, b1⟩ := k1.read; have zl := k1.lt)); (try (have zk := k2.lt; (first | ((with_reducible refine Blk.keepG hb k2 (fun h => ?_) ?_); (focus ((repeat' (first | (with_reducible assumption) | ((with_reducible refine Blk.new ?_); first | rfl | (simp; done)) | (with_reducible refine Blk.later (by assumption) ?_) | (with_reducible refine Blk.alloc ?_) | (with_reducible refine Blk.drewN ?_) | (with_reducible refine Blk.drew ?_) | (with_reducible refine Blk.other ?_ (by first | omega | (simp; done) | (simp; omega))))); done)); clear k2; intro k2) | (with_reducible replace k2 := Blk.later hb (Blk.set (Blk.set k2))) | (with_reducible replace k2 := Blk.later hb (Blk.set k2))); clear a2 b2; obtain ⟨a2, b2⟩ := k2.read; have zl := k2.lt)); (try (have zk := k3.lt; (first | ((with_reducible refine Blk.keepG hb k3 (fun h => ?_) ?_); (focus ((repeat' (first | (with_reducible assumption) | ((with_reducible refine Blk.new ?_); first | rfl | (simp; done)) | (with_reducible refine Blk.later (by assumption) ?_) | (with_reducible refine Blk.alloc ?_) | (with_reducible refine Blk.drewN ?_) | (with_reducible refine Blk.drew ?_) | (with_reducible refine Blk.other ?_ (by first | omega | (simp; done) | (simp; omega))))); done)); clear k3; intro k3) | (with_reducible replace k3 := Blk.later hb (Blk.set (Blk.set k3))) | (with_reducible replace k3 := Blk.later hb (Blk.set k3))); clear a3 b3; obtain ⟨a3, b3⟩ := k3.read; have zl := k3.lt)); (try (have zk := k4.lt; (first | ((with_reducible refine Blk.keepG hb k4 (fun h => ?_) ?_); (focus ((repeat' (first | (with_reducible assumption) | ((with_reducible refine Blk.new ?_); first | rfl | (simp; done)) | (with_reducible refine Blk.later (by assumption) ?_) | (with_reducible refine Blk.alloc ?_) | (with_reducible refine Blk.drewN ?_) | (with_reducible refine Blk.drew ?_) | (with_reducible refine Blk.other ?_ (by first | omega | (simp; done) | (simp; omega))))); done)); clear k4; intro k4) | (with_reducible replace k4 := Blk.later hb (Blk.set (Blk.set k4))) | (with_reducible replace k4 := Blk.later hb (Blk.set k4))); clear a4 b4; obtain ⟨a4, b4⟩ := k4.read; have zl := k4.lt)); (try (have zk := k5.lt; (first | ((with_reducible refine Blk.keepG hb k5 (fun h => ?_) ?_); (focus ((repeat' (first | (with_reducible assumption) | ((with_reducible refine Blk.new ?_); first | rfl | (simp; done)) | (with_reducible refine Blk.later (by assumption) ?_) | (with_reducible refine Blk.alloc ?_) | (with_reducible refine Blk.drewN ?_) | (with_reducible refine Blk.drew ?_) | (with_reducible refine Blk.other ?_ (by first | omega | (simp; done) | (simp; omega))))); done)); clear k5; intro k5) | (with_reducible replace k5 := Blk.later hb (Blk.set (Blk.set k5))) | (with_reducible replace k5 := Blk.later hb (Blk.set k5))); clear a5 b5; obtain ⟨a5, b5⟩ := k5.read; have zl := k5.lt)); ((with_reducible have k3 := Blk.later hb (Blk.new rfl)); (try simp only [World.size_alloc, World.size_drew, World.heap_drewN] at k3); obtain ⟨a3, b3⟩ := k3.read; have zl := k3.lt)))
    clear HC HN
    go_upto_region 4 with (first
      | (go_at_call 131; (with_reducible refine (HD.out _).mono ?_); rintro e w1 ⟨rfl, hb⟩; (try (have zk := k0.lt; (first | ((with_reducible refine Blk.keepG hb k0 (fun h => ?_) ?_); (focus ((repeat' (first | (with_reducible assumption) | ((with_reducible refine Blk.new ?_); first | rfl | (simp; done)) | (with_reducible refine Blk.later (by assumption) ?_) | (with_reducible refine Blk.alloc ?_) | (with_reducible refine Blk.drewN ?_) | (with_reducible refine Blk.drew ?_) | (with_reducible refine Blk.other ?_ (by first | omega | (simp; done) | (simp; omega))))); done)); clear k0; intro k0) | (with_reducible replace k0 := Blk.later hb (Blk.set (Blk.set k0))) | (with_reducible replace k0 := Blk.later hb (Blk.set k0))); clear a0 b0; obtain ⟨a0, b0⟩ := k0.read; have zl := k0.lt)); (try (have zk := k1.lt; (first | ((with_reducible refine Blk.keepG hb k1 (fun h => ?_) ?_); (focus ((repeat' (first | (with_reducible assumption) | ((with_reducible refine Blk.new ?_); first | rfl | (simp; done)) | (with_reducible refine Blk.later (by assumption) ?_) | (with_reducible refine Blk.alloc ?_) | (with_reducible refine Blk.drewN ?_) | (with_reducible refine Blk.drew ?_) | (with_reducible refine Blk.other ?_ (by first | omega | (simp; done) | (simp; omega))))); done)); clear k1; intro k1) | (with_reducible replace k1 := Blk.later hb (Blk.set (Blk.set k1))) | (with_reducible replace k1 := Blk.later hb (Blk.set k1))); clear a1 b1; obtain ⟨a1, b1⟩ := k1.read; have zl := k1.lt)); (try (have zk := k2.lt; (first | ((with_reducible refine Blk.keepG hb k2 (fun h => ?_) ?_); (focus ((repeat' (first | (with_reducible assumption) | ((with_reducible refine Blk.new ?_); first | rfl | (simp; done)) | (with_reducible refine Blk.later (by assumption) ?_) | (with_reducible refine Blk.alloc ?_) | (with_reducible refine Blk.drewN ?_) | (with_reducible refine Blk.drew ?_) | (with_reducible refine Blk.other ?_ (by first | omega | (simp; done) | (simp; omega))))); done)); clear k2; intro k2) | (with_reducible replace k2 := Blk.later hb (Blk.set (Blk.set k2))) | (with_reducible replace k2 := Blk.later hb (Blk.set k2))); clear a2 b2; obtain ⟨a2, b2⟩ := k2.read; have zl := k2.lt)); (try (have zk := k3.lt; (first | ((with_reducible refine Blk.keepG hb k3 (fun h => ?_) ?_); (focus ((repeat' (first | (with_reducible assumption) | ((with_reducible refine Blk.new ?_); first | rfl | (simp; done)) | (with_reducible refine Blk.later (by assumption) ?_) | (with_reducible refine Blk.alloc ?_) | (with_reducible refine Blk.drewN ?_) | (with_reducible refine Blk.drew ?_) | (with_reducible refine Blk.other ?_ (by first | omega | (simp; done) | (simp; omega))))); done)); clear k3; intro k3) | (with_reducible replace k3 := Blk.later hb (Blk.set (Blk.set k3))) | (with_reducible replace k3 := Blk.later hb (Blk.set k3))); clear a3 b3; obtain ⟨a3, b3⟩ := k3.read; have zl := k3.lt)); (try (have zk := k4.lt; (first | ((with_reducible refine Blk.keepG hb k4 (fun h => ?_) ?_); (focus ((repeat' (first | (with_reducible assumption) | ((with_reducible refine Blk.new ?_); first | rfl | (simp; done)) | (with_reducible refine Blk.later (by assumption) ?_) | (with_reducible refine Blk.alloc ?_) | (with_reducible refine Blk.drewN ?_) | (with_reducible refine Blk.drew ?_) | (with_reducible refine Blk.other ?_ (by first | omega | (simp; done) | (simp; omega))))); done)); clear k4; intro k4) | (with_reducible replace k4 := Blk.later hb (Blk.set (Blk.set k4))) | (with_reducible replace k4 := Blk.later hb (Blk.set k4))); clear a4 b4; obtain ⟨a4, b4⟩ := k4.read; have zl := k4.lt)); (try (have zk := k5.lt; (first | ((with_reducible refine Blk.keepG hb k5 (fun h => ?_) ?_); (focus ((repeat' (first | (with_reducible assumption) | ((with_reducible refine Blk.new ?_); first | rfl | (simp; done)) | (with_reducible refine Blk.later (by assumption) ?_) | (with_reducible refine Blk.alloc ?_) | (with_reducible refine Blk.drewN ?_) | (with_reducible refine Blk.drew ?_) | (with_reducible refine Blk.other ?_ (by first | omega | (simp; done) | (simp; omega))))); done)); clear k5; intro k5) | (with_reducible replace k5 := Blk.later hb (Blk.set (Blk.set k5))) | (with_reducible replace k5 := Blk.later hb (Blk.set k5))); clear a5 b5; obtain ⟨a5, b5⟩ := k5.read; have zl := k5.lt)); ((with_reducible have k4 := Blk.later hb (Blk.alloc (Blk.new rfl))); (with_reducible have k5 := Blk.later hb (Blk.new rfl)); (try simp only [World.size_alloc] at k4); (try simp only [World.size_alloc] at k5); obtain ⟨a4, b4⟩ := k4.read; have zl := k4.lt; obtain ⟨a5, b5⟩ := k5.read; have zl := k5.lt)))
    clear HD
    go_wp2
    first
    | exact bodyPost_ret (v := .tuple #[.agg #[.int .i64 0, .int .i64 0], .bool false]) (by simp only [results, Try.results117]; go_simp) rfl ⟨rfl, by (repeat' (first | (with_reducible exact Below.refl _ _) | (with_reducible assumption) | (with_reducible refine belowThru ?_ (by assumption)) | (with_reducible refine belowAlloc ?_) | (with_reducible refine Below.setCell ?_ (by first | omega | (simp; done) | (simp; omega)) _) | (with_reducible refine Below.drew ?_) | (with_reducible refine below_drewN ?_ _)))⟩
    | exact bodyPost_ret (v := .tuple #[.agg #[.int .i64 A, .int .i64 B], .bool true]) (by simp only [results, Try.results117]; go_simp) rfl ⟨rfl, by (repeat' (first | (with_reducible exact Below.refl _ _) | (with_reducible assumption) | (with_reducible refine belowThru ?_ (by assumption)) | (with_reducible refine belowAlloc ?_) | (with_reducible refine Below.setCell ?_ (by first | omega | (simp; done) | (simp; omega)) _) | (with_reducible refine Below.drew ?_) | (with_reducible refine below_drewN ?_ _)))⟩

/-- A fraction in lowest terms: the parts of the rational number. -/
theorem low_parts (s num den : Int) (n0 : 0 ≤ num) (d0 : 1 ≤ den) (x : Rat) (hx : x = mkR (if s < 0 then -num else num) den) :
    fn x = (if s < 0 then -(num / gcdI num den) else num / gcdI num den) ∧ fd x = den / gcdI num den := by
  subst hx
  by_cases hs : s < 0
  · rw [if_pos hs, if_pos hs]
    obtain ⟨p1, p2⟩ := mkR_parts (-num) den (gcdI num den) (by omega) (by congr 1 <;> omega)
    refine ⟨?_, by rw [p2]; congr 1; omega⟩
    rw [p1, Int.sign_eq_one_of_pos (by omega), Int.natAbs_neg, show (num.natAbs : Int) = num by omega]
    rcases Int.lt_trichotomy num 0 with h | rfl | h
    · omega
    · simp
    · rw [Int.sign_eq_neg_one_of_neg (by omega)]; simp
  · rw [if_neg hs, if_neg hs]
    obtain ⟨p1, p2⟩ := mkR_parts num den (gcdI num den) (by omega) (by congr 1 <;> omega)
    refine ⟨?_, by rw [p2]; congr 1; omega⟩
    rw [p1, Int.sign_eq_one_of_pos (by omega), show (num.natAbs : Int) = num by omega]
    rcases Int.lt_trichotomy num 0 with h | rfl | h
    · omega
    · simp
    · rw [Int.sign_eq_one_of_pos h]; simp

theorem lowest_q (x : Rat) (s num den : Int) (n0 : 0 ≤ num) (n1 : num < 170141183460469231731687303715884105728) (d0 : 1 ≤ den) (d1 : den < 170141183460469231731687303715884105728)
    (hx : x = mkR (if s < 0 then -num else num) den) (w : World) :
    Calls Try.prog 117 #[.int .i64 s, .agg #[.int .u64 (whi num), .int .u64 (wlo num)], .agg #[.int .u64 (whi den), .int .u64 (wlo den)]] w fun e w' => e = .returned (.tuple #[.agg #[.int .i64 (rn x), .int .i64 (rd x)], .bool (decide (re x = 0))]) ∧ Below w.heap.size w w' := by
  obtain ⟨p1, p2⟩ := low_parts s num den n0 d0 x hx
  have g0 := gcdI_pos_right num den (by omega)
  have g1 := gcdI_le_right num den (by omega)
  have hN0 := Int.ediv_nonneg n0 (show 0 ≤ gcdI num den by omega)
  have hN1 := Int.ediv_le_self (gcdI num den) n0
  have hD0 := Int.ediv_nonneg (show 0 ≤ den by omega) (show 0 ≤ gcdI num den by omega)
  have hD1 := Int.ediv_le_self (gcdI num den) (show 0 ≤ den by omega)
  have e := fd_pos x
  refine lowest_walk s (whi num) (wlo num) (whi den) (wlo den) (whi (gcdI num den)) (wlo (gcdI num den)) (whi (num / gcdI num den)) (wlo (num / gcdI num den)) (whi (den / gcdI num den)) (wlo (den / gcdI num den)) _ _ _ _ _ _ _ w
    (Lib.hid (common_any num den n0 n1 (by omega) d1)) (Lib.hid (parted_any num _ n0 (by omega) (by omega) (by omega))) (Lib.hid (parted_any den _ (by omega) (by omega) (by omega) (by omega))) ?_
  generalize gcdI num den = g at *
  generalize num / g = N at *
  generalize den / g = D at *
  have yes : fits x → rn x = fn x ∧ rd x = fd x ∧ decide (re x = 0) = true := fun h => ⟨if_pos h, if_pos h, by unfold re; rw [if_pos h]; rfl⟩
  have no : ¬ fits x → rn x = 0 ∧ rd x = 0 ∧ decide (re x = 0) = false := fun h => ⟨if_neg h, if_neg h, by unfold re; rw [if_neg h]; rfl⟩
  have hf : fits x ↔ N ≤ 4611686018427387903 ∧ D ≤ 4611686018427387903 := by
    unfold fits
    rw [p1, p2]
    split <;> omega
  have w1 : N = 18446744073709551616 * whi N + wlo N := by unfold whi wlo B64; omega
  have w2 : D = 18446744073709551616 * whi D + wlo D := by unfold whi wlo B64; omega
  have w3 : 0 ≤ wlo N ∧ 0 ≤ wlo D ∧ 0 ≤ whi N ∧ 0 ≤ whi D := by unfold whi wlo B64; omega
  generalize whi N = nh at *
  generalize wlo N = nl at *
  generalize whi D = dh at *
  generalize wlo D = dl at *
  by_cases c1 : nh = 0
  · by_cases c2 : dh = 0
    · subst c1 c2
      by_cases c3 : 4611686018427387903 < nl
      · obtain ⟨y1, y2, y3⟩ := no (fun h => by have := hf.1 h; omega)
        exact .inr (.inr (.inl ⟨rfl, rfl, c3, y1, y2, y3⟩))
      · by_cases c4 : 4611686018427387903 < dl
        · obtain ⟨y1, y2, y3⟩ := no (fun h => by have := hf.1 h; omega)
          exact .inr (.inr (.inr (.inl ⟨rfl, rfl, c3, c4, y1, y2, y3⟩)))
        · obtain ⟨y1, y2, y3⟩ := yes (hf.2 (by omega))
          by_cases c5 : s < 0
          · refine .inr (.inr (.inr (.inr (.inl ⟨rfl, rfl, c3, c4, c5, IntWalk.i64_in nl (by omega), ?_, ?_, y3⟩))))
            · rw [y1, p1, if_pos c5, IntWalk.i64_in _ (by omega)]; omega
            · rw [y2, p2, IntWalk.i64_in dl (by omega)]; omega
          · refine .inr (.inr (.inr (.inr (.inr ⟨rfl, rfl, c3, c4, c5, ?_, ?_, y3⟩))))
            · rw [y1, p1, if_neg c5, IntWalk.i64_in nl (by omega)]; omega
            · rw [y2, p2, IntWalk.i64_in dl (by omega)]; omega
    · obtain ⟨y1, y2, y3⟩ := no (fun h => by have := hf.1 h; omega)
      exact .inr (.inl ⟨c1, by simpa using c2, y1, y2, y3⟩)
  · obtain ⟨y1, y2, y3⟩ := no (fun h => by have := hf.1 h; omega)
    exact .inl ⟨by simpa using c1, y1, y2, y3⟩
end Go.Proofs.Ytdimmnoflenfhaa
/-
  The document's own answers, layer 1: order, products, quotients and sums of rational numbers that fit.
-/
namespace Go.Proofs.Ytdimmnoflenfhaa
open Go.RowKit

theorem sg (p : Int) : (p < 0 ∧ p.sign = -1) ∨ (p = 0 ∧ p.sign = 0) ∨ (0 < p ∧ p.sign = 1) := by
  rcases Int.lt_trichotomy p 0 with h | h | h
  · exact .inl ⟨h, Int.sign_eq_neg_one_of_neg h⟩
  · exact .inr (.inl ⟨h, by rw [h]; rfl⟩)
  · exact .inr (.inr ⟨h, Int.sign_eq_one_of_pos h⟩)
theorem mag_sg (p : Int) : (p < 0 → mag p = -p) ∧ (0 ≤ p → mag p = p) := ⟨mag_neg p, mag_pos p⟩

end Go.Proofs.Ytdimmnoflenfhaa
/-
  Layer 5: whether the reference takes a gauge.
-/
namespace Go.Proofs.Ytdimmnoflenfhaa
open Go.RowKit Go.Shelf
set_option linter.unusedVariables false
set_option linter.unusedSimpArgs false

theorem rwithin_any (n lo hi : Int) (w : World) :
    Calls Try.prog 88 #[.int .i64 n, .int .i64 lo, .int .i64 hi] w fun e w' => e = .returned (.bool (decide (lo ≤ n ∧ n ≤ hi))) ∧ Below w.heap.size w w' := by
  by_cases h : lo ≤ n ∧ n ≤ hi
  · rw [decide_eq_true h]; exact (rwithin_yes n lo hi h.1 h.2 w).mono fun e w' k => ⟨k.1, by rw [k.2]; exact Below.refl _ _⟩
  · rw [decide_eq_false h]; exact (rwithin_no n lo hi h w).mono fun e w' k => ⟨k.1, by rw [k.2]; exact Below.refl _ _⟩
instance (a b : Int) : Decidable (smF a b) := inferInstanceAs (Decidable ((_ ∧ _) ∧ _))
end Go.Proofs.Ytdimmnoflenfhaa
/-
  Layer 5, the reference: whether a profile is valid, and what may be asked of it.
-/
namespace Go.Proofs.Ytdimmnoflenfhaa
open Go.RowKit Go.Shelf
set_option linter.unusedVariables false
set_option linter.unusedSimpArgs false

set_option maxHeartbeats 1000000 in
theorem val_all (a : Option Addr) (n c : Nat) (zs : List Int) (hn : n ≤ maxLen) (w : World) (hR : Row w a n (iv zs)) :
    Calls Try.prog 60 #[.slice a n c] w fun e w' => e = .returned (.bool (decide (okP zs))) ∧ Below w.heap.size w w' := by
  by_cases h64 : n ≤ 64
  · exact val_any a n c zs h64 w hR
  · have hx : zs.length = n := by have := hR.1; rwa [iv_length] at this
    rw [decide_eq_false (fun h : okP zs => h64 (by rw [← hx]; exact h.1.2))]
    unfold maxLen at hn
    have hd : decide ((n : Int) < 2) = false := by simp; omega
    have hd2 : decide (64 < (n : Int)) = true := by simp; omega
    clear hx hR
    go_enter Try.func60, Try.ntmps60
    go_wp2
    go_ret
    exact ⟨rfl, by (repeat' (first | (with_reducible exact Below.refl _ _) | (with_reducible assumption) | (with_reducible refine belowThru ?_ (by assumption)) | (with_reducible refine belowAlloc ?_) | (with_reducible refine Below.setCell ?_ (by first | omega | (simp; done) | (simp; omega)) _) | (with_reducible refine Below.drew ?_) | (with_reducible refine below_drewN ?_ _)))⟩
/-- What the reference says to a question about a profile. -/
def asQ (zs : List Int) (t p nz : Int) : Int := if ¬ okP zs then 50 else if ¬ (okT t ∧ inL zs p ∧ okN nz) then 2 else 0
theorem rwy (n lo hi : Int) (h : lo ≤ n) (k : n ≤ hi) (w : World) : Calls Try.prog 88 #[.int .i64 n, .int .i64 lo, .int .i64 hi] w fun e w' => e = .returned (.bool true) ∧ Below w.heap.size w w' := by
  have := rwithin_any n lo hi w; rwa [decide_eq_true ⟨h, k⟩] at this
theorem rwn (n lo hi : Int) (h : ¬ (lo ≤ n ∧ n ≤ hi)) (w : World) : Calls Try.prog 88 #[.int .i64 n, .int .i64 lo, .int .i64 hi] w fun e w' => e = .returned (.bool false) ∧ Below w.heap.size w w' := by
  have := rwithin_any n lo hi w; rwa [decide_eq_false h] at this
set_option maxRecDepth 100000 in
set_option maxHeartbeats 16000000 in
theorem asked_v (a : Option Addr) (n c : Nat) (zs : List Int) (t p nz : Int) (hn : n ≤ maxLen) (w : World) (hR : Row w a n (iv zs)) (HV : Hid (∀ w, Row w a n (iv zs) → Calls Try.prog 60 #[.slice a n c] w fun e w' => e = .returned (.bool false) ∧ Below w.heap.size w w')) :
    Calls Try.prog 52 #[.slice a n c, .int .i64 t, .int .i64 p, .int .i64 nz] w fun e w' => e = .returned (.int .i64 50) ∧ Below w.heap.size w w' := by
  have HR := Lib.hid hR
  clear hR
  unfold maxLen at hn
  have hwn : IntKind.i64.wrap ((n : Int) - 1) = (n : Int) - 1 := IntWalk.i64_in _ (by omega)
  go_enter Try.func52, Try.ntmps52
  go_wp2_with (first
    | (go_at_call 60; (with_reducible refine (HV.out _ HR.out).mono ?_); rintro e w1 ⟨rfl, hb1⟩; clear HV))
  all_goals
    go_ret
    exact ⟨rfl, by (repeat' (first | (with_reducible exact Below.refl _ _) | (with_reducible assumption) | (with_reducible refine belowThru ?_ (by assumption)) | (with_reducible refine belowAlloc ?_) | (with_reducible refine Below.setCell ?_ (by first | omega | (simp; done) | (simp; omega)) _) | (with_reducible refine Below.drew ?_) | (with_reducible refine below_drewN ?_ _)))⟩
set_option maxRecDepth 100000 in
set_option maxHeartbeats 16000000 in
theorem asked_1 (a : Option Addr) (n c : Nat) (zs : List Int) (t p nz : Int) (hn : n ≤ maxLen) (w : World) (hR : Row w a n (iv zs)) (HV : Hid (∀ w, Row w a n (iv zs) → Calls Try.prog 60 #[.slice a n c] w fun e w' => e = .returned (.bool true) ∧ Below w.heap.size w w')) (HW1 : Hid (∀ w, Calls Try.prog 88 #[.int .i64 t, .int .i64 1, .int .i64 255] w fun e w' => e = .returned (.bool false) ∧ Below w.heap.size w w')) :
    Calls Try.prog 52 #[.slice a n c, .int .i64 t, .int .i64 p, .int .i64 nz] w fun e w' => e = .returned (.int .i64 2) ∧ Below w.heap.size w w' := by
  have HR := Lib.hid hR
  clear hR
  unfold maxLen at hn
  have hwn : IntKind.i64.wrap ((n : Int) - 1) = (n : Int) - 1 := IntWalk.i64_in _ (by omega)
  go_enter Try.func52, Try.ntmps52
  go_wp2_with (first
    | (go_at_call 60; (with_reducible refine (HV.out _ HR.out).mono ?_); rintro e w1 ⟨rfl, hb1⟩; clear HV)
    | (go_at_call 88; (with_reducible refine (HW1.out _).mono ?_); rintro e w2 ⟨rfl, hb2⟩; clear HW1))
  all_goals
    go_ret
    exact ⟨rfl, by (repeat' (first | (with_reducible exact Below.refl _ _) | (with_reducible assumption) | (with_reducible refine belowThru ?_ (by assumption)) | (with_reducible refine belowAlloc ?_) | (with_reducible refine Below.setCell ?_ (by first | omega | (simp; done) | (simp; omega)) _) | (with_reducible refine Below.drew ?_) | (with_reducible refine below_drewN ?_ _)))⟩
set_option maxRecDepth 100000 in
set_option maxHeartbeats 16000000 in
theorem asked_2 (a : Option Addr) (n c : Nat) (zs : List Int) (t p nz : Int) (hn : n ≤ maxLen) (w : World) (hR : Row w a n (iv zs)) (HV : Hid (∀ w, Row w a n (iv zs) → Calls Try.prog 60 #[.slice a n c] w fun e w' => e = .returned (.bool true) ∧ Below w.heap.size w w')) (HW1 : Hid (∀ w, Calls Try.prog 88 #[.int .i64 t, .int .i64 1, .int .i64 255] w fun e w' => e = .returned (.bool true) ∧ Below w.heap.size w w')) (HW2 : Hid (∀ w, Calls Try.prog 88 #[.int .i64 p, .int .i64 0, .int .i64 ((n : Int) - 1)] w fun e w' => e = .returned (.bool false) ∧ Below w.heap.size w w')) :
    Calls Try.prog 52 #[.slice a n c, .int .i64 t, .int .i64 p, .int .i64 nz] w fun e w' => e = .returned (.int .i64 2) ∧ Below w.heap.size w w' := by
  have HR := Lib.hid hR
  clear hR
  unfold maxLen at hn
  have hwn : IntKind.i64.wrap ((n : Int) - 1) = (n : Int) - 1 := IntWalk.i64_in _ (by omega)
  go_enter Try.func52, Try.ntmps52
  go_wp2_with (first
    | (go_at_call 60; (with_reducible refine (HV.out _ HR.out).mono ?_); rintro e w1 ⟨rfl, hb1⟩; clear HV)
    | (go_at_call 88; (with_reducible refine (HW1.out _).mono ?_); rintro e w2 ⟨rfl, hb2⟩; clear HW1)
    | (go_at_call 88; (with_reducible refine (HW2.out _).mono ?_); rintro e w3 ⟨rfl, hb3⟩; clear HW2))
  all_goals
    go_ret
    exact ⟨rfl, by (repeat' (first | (with_reducible exact Below.refl _ _) | (with_reducible assumption) | (with_reducible refine belowThru ?_ (by assumption)) | (with_reducible refine belowAlloc ?_) | (with_reducible refine Below.setCell ?_ (by first | omega | (simp; done) | (simp; omega)) _) | (with_reducible refine Below.drew ?_) | (with_reducible refine below_drewN ?_ _)))⟩
set_option maxRecDepth 100000 in
set_option maxHeartbeats 16000000 in
theorem asked_3 (a : Option Addr) (n c : Nat) (zs : List Int) (t p nz : Int) (hn : n ≤ maxLen) (w : World) (hR : Row w a n (iv zs)) (HV : Hid (∀ w, Row w a n (iv zs) → Calls Try.prog 60 #[.slice a n c] w fun e w' => e = .returned (.bool true) ∧ Below w.heap.size w w')) (HW1 : Hid (∀ w, Calls Try.prog 88 #[.int .i64 t, .int .i64 1, .int .i64 255] w fun e w' => e = .returned (.bool true) ∧ Below w.heap.size w w')) (HW2 : Hid (∀ w, Calls Try.prog 88 #[.int .i64 p, .int .i64 0, .int .i64 ((n : Int) - 1)] w fun e w' => e = .returned (.bool true) ∧ Below w.heap.size w w')) (HW3 : Hid (∀ w, Calls Try.prog 88 #[.int .i64 nz, .int .i64 0, .int .i64 64] w fun e w' => e = .returned (.bool false) ∧ Below w.heap.size w w')) :
    Calls Try.prog 52 #[.slice a n c, .int .i64 t, .int .i64 p, .int .i64 nz] w fun e w' => e = .returned (.int .i64 2) ∧ Below w.heap.size w w' := by
  have HR := Lib.hid hR
  clear hR
  unfold maxLen at hn
  have hwn : IntKind.i64.wrap ((n : Int) - 1) = (n : Int) - 1 := IntWalk.i64_in _ (by omega)
  go_enter Try.func52, Try.ntmps52
  go_wp2_with (first
    | (go_at_call 60; (with_reducible refine (HV.out _ HR.out).mono ?_); rintro e w1 ⟨rfl, hb1⟩; clear HV)
    | (go_at_call 88; (with_reducible refine (HW1.out _).mono ?_); rintro e w2 ⟨rfl, hb2⟩; clear HW1)
    | (go_at_call 88; (with_reducible refine (HW2.out _).mono ?_); rintro e w3 ⟨rfl, hb3⟩; clear HW2)
    | (go_at_call 88; (with_reducible refine (HW3.out _).mono ?_); rintro e w4 ⟨rfl, hb4⟩; clear HW3))
  all_goals
    go_ret
    exact ⟨rfl, by (repeat' (first | (with_reducible exact Below.refl _ _) | (with_reducible assumption) | (with_reducible refine belowThru ?_ (by assumption)) | (with_reducible refine belowAlloc ?_) | (with_reducible refine Below.setCell ?_ (by first | omega | (simp; done) | (simp; omega)) _) | (with_reducible refine Below.drew ?_) | (with_reducible refine below_drewN ?_ _)))⟩
set_option maxRecDepth 100000 in
set_option maxHeartbeats 16000000 in
theorem asked_0 (a : Option Addr) (n c : Nat) (zs : List Int) (t p nz : Int) (hn : n ≤ maxLen) (w : World) (hR : Row w a n (iv zs)) (HV : Hid (∀ w, Row w a n (iv zs) → Calls Try.prog 60 #[.slice a n c] w fun e w' => e = .returned (.bool true) ∧ Below w.heap.size w w')) (HW1 : Hid (∀ w, Calls Try.prog 88 #[.int .i64 t, .int .i64 1, .int .i64 255] w fun e w' => e = .returned (.bool true) ∧ Below w.heap.size w w')) (HW2 : Hid (∀ w, Calls Try.prog 88 #[.int .i64 p, .int .i64 0, .int .i64 ((n : Int) - 1)] w fun e w' => e = .returned (.bool true) ∧ Below w.heap.size w w')) (HW3 : Hid (∀ w, Calls Try.prog 88 #[.int .i64 nz, .int .i64 0, .int .i64 64] w fun e w' => e = .returned (.bool true) ∧ Below w.heap.size w w')) :
    Calls Try.prog 52 #[.slice a n c, .int .i64 t, .int .i64 p, .int .i64 nz] w fun e w' => e = .returned (.int .i64 0) ∧ Below w.heap.size w w' := by
  have HR := Lib.hid hR
  clear hR
  unfold maxLen at hn
  have hwn : IntKind.i64.wrap ((n : Int) - 1) = (n : Int) - 1 := IntWalk.i64_in _ (by omega)
  go_enter Try.func52, Try.ntmps52
  go_wp2_with (first
    | (go_at_call 60; (with_reducible refine (HV.out _ HR.out).mono ?_); rintro e w1 ⟨rfl, hb1⟩; clear HV)
    | (go_at_call 88; (with_reducible refine (HW1.out _).mono ?_); rintro e w2 ⟨rfl, hb2⟩; clear HW1)
    | (go_at_call 88; (with_reducible refine (HW2.out _).mono ?_); rintro e w3 ⟨rfl, hb3⟩; clear HW2)
    | (go_at_call 88; (with_reducible refine (HW3.out _).mono ?_); rintro e w4 ⟨rfl, hb4⟩; clear HW3))
  all_goals
    go_ret
    exact ⟨rfl, by (repeat' (first | (with_reducible exact Below.refl _ _) | (with_reducible assumption) | (with_reducible refine belowThru ?_ (by assumption)) | (with_reducible refine belowAlloc ?_) | (with_reducible refine Below.setCell ?_ (by first | omega | (simp; done) | (simp; omega)) _) | (with_reducible refine Below.drew ?_) | (with_reducible refine below_drewN ?_ _)))⟩
theorem asked_any (a : Option Addr) (n c : Nat) (zs : List Int) (t p nz : Int) (hn : n ≤ maxLen) (w : World) (hR : Row w a n (iv zs)) :
    Calls Try.prog 52 #[.slice a n c, .int .i64 t, .int .i64 p, .int .i64 nz] w fun e w' => e = .returned (.int .i64 (asQ zs t p nz)) ∧ Below w.heap.size w w' := by
  have hx : zs.length = n := by have := hR.1; rwa [iv_length] at this
  have V := fun w hR => val_all a n c zs hn w hR
  unfold asQ
  by_cases hz : okP zs
  · rw [if_neg (fun h => h hz)]
    rw [decide_eq_true hz] at V
    by_cases h1 : okT t
    · by_cases h2 : inL zs p
      · have h2' : 0 ≤ p ∧ p ≤ (n : Int) - 1 := by unfold inL at h2; omega
        by_cases h3 : okN nz
        · rw [if_neg (fun h => h ⟨h1, h2, h3⟩)]
          exact asked_0 a n c zs t p nz hn w hR (Lib.hid V) (Lib.hid (rwy t 1 255 h1.1 h1.2)) (Lib.hid (rwy p 0 ((n : Int) - 1) h2'.1 h2'.2)) (Lib.hid (rwy nz 0 64 h3.1 h3.2))
        · rw [if_pos (fun h => h3 h.2.2)]
          exact asked_3 a n c zs t p nz hn w hR (Lib.hid V) (Lib.hid (rwy t 1 255 h1.1 h1.2)) (Lib.hid (rwy p 0 ((n : Int) - 1) h2'.1 h2'.2)) (Lib.hid (rwn nz 0 64 h3))
      · have h2' : ¬ (0 ≤ p ∧ p ≤ (n : Int) - 1) := by unfold inL at h2; omega
        rw [if_pos (fun h => h2 h.2.1)]
        exact asked_2 a n c zs t p nz hn w hR (Lib.hid V) (Lib.hid (rwy t 1 255 h1.1 h1.2)) (Lib.hid (rwn p 0 ((n : Int) - 1) h2'))
    · rw [if_pos (fun h => h1 h.1)]
      exact asked_1 a n c zs t p nz hn w hR (Lib.hid V) (Lib.hid (rwn t 1 255 h1))
  · rw [if_pos hz]
    rw [decide_eq_false hz] at V
    exact asked_v a n c zs t p nz hn w hR (Lib.hid V)
end Go.Proofs.Ytdimmnoflenfhaa
/-
  Layer 5, the reference: a profile with a number added to each value.
-/
namespace Go.Proofs.Ytdimmnoflenfhaa
open Go.RowKit Go.Shelf
set_option linter.unusedVariables false
set_option linter.unusedSimpArgs false

theorem info_tin : (Try.prog.info? 3).map (fun i => (i.zero, i.size, i.bytes)) = some (some (.int .i64 0), 1, 8) := by kernel_rfl
theorem ownsRow_row {w : World} {base : Nat} {v : Value} {zs : List Int} (h : w.ownsRow base 3 1 v zs.length (iv zs)) : ∃ a c, v = .slice a zs.length c ∧ Row w a zs.length (iv zs) := by
  rcases h.2 with ⟨rfl, h0⟩ | ⟨g, cap, cur, rfl, hb, hh, hnc, _, hcs, ht⟩
  · exact ⟨none, 0, by rw [h0], ⟨iv_length zs, fun hn => absurd hn (by omega)⟩⟩
  · refine ⟨_, _, rfl, ⟨iv_length zs, fun hn => ⟨g, 0, rfl, lt_of_block hh, fun j hj => ?_⟩⟩⟩
    have e : w.cell? ⟨g, 0 + j, none⟩ = cur[j]? := by simp [World.cell?, hh]
    rw [e, ← ht, Nat.mul_one, List.getElem?_take_of_lt hj, Array.getElem?_toList]
theorem below_growL {w wr W w3 : World} {v : Value} {n : Nat} {xs : List Value} (hown : wr.ownsRow w.heap.size 3 1 v n xs) (hW : Below w.heap.size w W) (hg : W.grownBy w3 v.ownBlock) : Below w.heap.size w w3 :=
  hW.grown hg hW.size (fun k hk => by have := (hown.lt k hk).1; omega)
theorem own_map {w : World} {base : Nat} {v : Value} {k : Nat} {f : Nat → Int} (h : w.ownsRow base 3 1 v (k + 1) (iv ((List.range k).map f) ++ [.int .i64 (f k)])) : w.ownsRow base 3 1 v (k + 1) (iv ((List.range (k + 1)).map f)) := by
  have e : iv ((List.range (k + 1)).map f) = iv ((List.range k).map f) ++ [.int .i64 (f k)] := by simp [iv, List.range_succ]
  rw [e]; exact h
/-- A list that reads as the numbers for the indices. -/
def RetM (f : Nat → Int) (n : Nat) (w : World) (e : Ending) (w' : World) : Prop :=
  ∃ (v : Option Addr) (c : Nat), e = .returned (.slice v n c) ∧ Row w' v n (iv ((List.range n).map f)) ∧ Below w.heap.size w w'

set_option maxRecDepth 100000 in
set_option maxHeartbeats 4000000 in
theorem rmoved (a : Option Addr) (n c : Nat) (zs : List Int) (y : Int) (hn : n ≤ 64) (hV : V8 zs) (hy : -64 ≤ y ∧ y ≤ 64) (w : World) (hR : Row w a n (iv zs)) :
    Calls Try.prog 57 #[.slice a n c, .int .i64 y] w (RetM (fun k => min 255 (max 0 (zs[k]?.getD 0 + y))) n w) := by
  have HR := Lib.hid hR
  obtain ⟨i0, hi, hz0, hz1, hz2⟩ := info_parts info_tin
  obtain ⟨f, hf⟩ : ∃ f : Nat → Int, (fun k => min 255 (max 0 (zs[k]?.getD 0 + y))) = f := ⟨_, rfl⟩
  have HF : Hid (∀ k, f k = min 255 (max 0 (zs[k]?.getD 0 + y))) := fun k => by rw [← hf]
  rw [hf]
  clear hR hf
  go_enter Try.func57, Try.ntmps57
  go_wp2
  go_loopw [5, 6] (fun v s7 wr => ∃ k : Nat, k ≤ n ∧ s7 = .int .i64 k ∧ wr.ownsRow w.heap.size 3 1 v k (iv ((List.range k).map f)) ∧ Below w.heap.size w wr) (fun _ s7 _ => n - (intOf s7).toNat)
  case atStart => exact ⟨0, Nat.zero_le _, rfl, World.ownsRow_nil _ _ _ _, by (repeat' (first | (with_reducible exact Below.refl _ _) | (with_reducible assumption) | (with_reducible refine belowThru ?_ (by assumption)) | (with_reducible refine belowAlloc ?_) | (with_reducible refine Below.setCell ?_ (by first | omega | (simp; done) | (simp; omega)) _) | (with_reducible refine Below.drew ?_) | (with_reducible refine below_drewN ?_ _)))⟩
  case round =>
    obtain ⟨k, hk, rfl, hown, hB⟩ := hrel
    have p0 : (0 : Int) ≤ (k : Int) := by omega
    by_cases hlt : k < n
    · have p1 : (k : Int) < (n : Int) := by omega
      obtain ⟨bb, oo, z, e1, hbb, hz, cz⟩ := HR.out.int hlt
      cases e1
      have cz := cell_later hB cz
      have hfz : f k = min 255 (max 0 (z + y)) := by rw [HF.out k, hz]; rfl
      have hz8 := hV z (List.mem_of_getElem? hz)
      have w1 : IntKind.i64.wrap (z + y) = z + y := IntWalk.i64_in _ (by omega)
      have hzB := hB.size
      clear hz hz8
      go_wp2_with (at_builtin; refine wpList_append_own _ rfl _ _ 27 rfl w.heap.size 3 i0 (.int .i64 0) 1 8 Try.underlying27 hi hz0 hz1 hz2 rfl (by decide) _ _ _ rfl (hown.alloc _) ⟨wr.heap.size, 0, none⟩ 1 1 [.int .i64 (min 255 (max 0 (z + y)))] rfl rfl (cell_one_new _ _ _) (fun x hx => by simp at hx; subst hx; rfl) (by unfold maxLen; omega) (by omega) (by simp; omega) ?_; intro v' w3 hown' hgrow3 hnil3)
      have hB' := below_growL hown (belowAlloc hB) hgrow3
      rw [← hfz] at hown'
      have HO := Lib.hid (own_map hown')
      clear hown' hgrow3 hnil3 hown
      go_roundw
      case rel => exact ⟨k + 1, hlt, by go_num, HO.out, hB'⟩
      case measure => simp [intOf]; omega
    · obtain rfl : k = n := by omega
      have hln : ((List.range k).map f).length = k := by simp
      obtain ⟨v, e, rfl, hr⟩ := ownsRow_row (zs := (List.range k).map f) (by rw [hln]; exact hown)
      rw [hln] at hr ⊢
      have HQ := Lib.hid hr
      clear hr hown hln
      go_wp2
      go_ret
      exact ⟨v, e, rfl, HQ.out, hB⟩
end Go.Proofs.Ytdimmnoflenfhaa
/-
  The document's own answers, layer 1: fractions made, sums and differences.
-/
namespace Go.Proofs.Ytdimmnoflenfhaa
open Go.RowKit

set_option maxHeartbeats 2000000 in
theorem rmake_walk (n d s t y m k A B : Int) (ok : Bool) (M N E : Int) (w : World) (d0 : (d == 0) = false) (hy : IntKind.i64.wrap (s * t) = y)
    (HS1 : Hid (∀ w, Calls Try.prog 116 #[.int .i64 n] w fun e w' => e = .returned (.int .i64 s) ∧ w = w'))
    (HS2 : Hid (∀ w, Calls Try.prog 116 #[.int .i64 d] w fun e w' => e = .returned (.int .i64 t) ∧ w = w'))
    (HM1 : Hid (∀ w, Calls Try.prog 115 #[.int .i64 n] w fun e w' => e = .returned (.int .u64 m) ∧ w = w'))
    (HM2 : Hid (∀ w, Calls Try.prog 115 #[.int .i64 d] w fun e w' => e = .returned (.int .u64 k) ∧ w = w'))
    (HL : Hid (∀ w, Calls Try.prog 117 #[.int .i64 y, .agg #[.int .u64 0, .int .u64 m], .agg #[.int .u64 0, .int .u64 k]] w fun e w' => e = .returned (.tuple #[.agg #[.int .i64 A, .int .i64 B], .bool ok]) ∧ Below w.heap.size w w'))
    (HF : Hid (∀ w, Calls Try.prog 129 #[.agg #[.int .i64 A, .int .i64 B], .bool ok] w fun e w' => e = .returned (.tuple #[.agg #[.int .i64 M, .int .i64 N], .int .i64 E]) ∧ Below w.heap.size w w')) :
    Calls Try.prog 112 #[.int .i64 n, .int .i64 d] w fun e w' => e = .returned (.tuple #[.agg #[.int .i64 M, .int .i64 N], .int .i64 E]) ∧ Below w.heap.size w w' := by
  go_enter Try.func112, Try.ntmps112
  go_wp2_with (first
    | (go_at_call 116; (with_reducible refine (HS1.out _).mono ?_); rintro e w1 ⟨rfl, rfl⟩)
    | (go_at_call 116; (with_reducible refine (HS2.out _).mono ?_); rintro e w1 ⟨rfl, rfl⟩)
    | (go_at_call 115; (with_reducible refine (HM1.out _).mono ?_); rintro e w1 ⟨rfl, rfl⟩)
    | (go_at_call 115; (with_reducible refine (HM2.out _).mono ?_); rintro e w1 ⟨rfl, rfl⟩)
    | (go_at_call 117; (with_reducible refine (HL.out _).mono ?_); rintro e w1 ⟨rfl, hb⟩; (first | ((with_reducible have k0 := Blk.later hb (Blk.new rfl)); skip; obtain ⟨a0, b0⟩ := k0.read; have zl := k0.lt) | ((try (have zk := k0.lt; (first | ((with_reducible refine Blk.keepG hb k0 (fun h => ?_) ?_); (focus ((repeat' (first | (with_reducible assumption) | ((with_reducible refine Blk.new ?_); first | rfl | (simp; done)) | (with_reducible refine Blk.later (by assumption) ?_) | (with_reducible refine Blk.alloc ?_) | (with_reducible refine Blk.drewN ?_) | (with_reducible refine Blk.drew ?_) | (with_reducible refine Blk.other ?_ (by first | omega | (simp; done) | (simp; omega))))); done)); clear k0; intro k0) | (with_reducible replace k0 := Blk.later hb (Blk.set (Blk.set k0))) | (with_reducible replace k0 := Blk.later hb (Blk.set k0))); clear a0 b0; obtain ⟨a0, b0⟩ := k0.read; have zl := k0.lt)))))
    | (go_at_call 129; (with_reducible refine (HF.out _).mono ?_); rintro e w1 ⟨rfl, hb⟩; (try (have zk := k0.lt; (first | ((with_reducible refine Blk.keepG hb k0 (fun h => ?_) ?_); (focus ((repeat' (first | (with_reducible assumption) | ((with_reducible refine Blk.new ?_); first | rfl | (simp; done)) | (with_reducible refine Blk.later (by assumption) ?_) | (with_reducible refine Blk.alloc ?_) | (with_reducible refine Blk.drewN ?_) | (with_reducible refine Blk.drew ?_) | (with_reducible refine Blk.other ?_ (by first | omega | (simp; done) | (simp; omega))))); done)); clear k0; intro k0) | (with_reducible replace k0 := Blk.later hb (Blk.set (Blk.set k0))) | (with_reducible replace k0 := Blk.later hb (Blk.set k0))); clear a0 b0; obtain ⟨a0, b0⟩ := k0.read; have zl := k0.lt))))
  exact bodyPost_ret (v := .tuple #[.agg #[.int .i64 M, .int .i64 N], .int .i64 E]) (by simp only [results, Try.results112]; go_simp) rfl ⟨rfl, by (repeat' (first | (with_reducible exact Below.refl _ _) | (with_reducible assumption) | (with_reducible refine belowThru ?_ (by assumption)) | (with_reducible refine belowAlloc ?_) | (with_reducible refine Below.setCell ?_ (by first | omega | (simp; done) | (simp; omega)) _) | (with_reducible refine Below.drew ?_) | (with_reducible refine below_drewN ?_ _)))⟩

theorem rmake_q (n d : Int) (w : World) (n1 : -9223372036854775808 ≤ n) (n2 : n ≤ 9223372036854775807) (d1 : -9223372036854775808 ≤ d) (d2 : d ≤ 9223372036854775807) (d0 : d ≠ 0) :
    Calls Try.prog 112 #[.int .i64 n, .int .i64 d] w fun e w' => e = .returned (.tuple #[.agg #[.int .i64 (rn (mkR n d)), .int .i64 (rd (mkR n d))], .int .i64 (re (mkR n d))]) ∧ Below w.heap.size w w' := by
  have m1 := mag_lo n; have m2 := mag_le n n1 n2; have m3 := mag_lo d; have m4 := mag_le d d1 d2
  have m5 : 1 ≤ mag d := by have := mag_natAbs d; omega
  have k1 := sg n; have k2 := sg d
  have hb := mul_bound n.sign d.sign 1 1 (by omega) (by omega) (by omega) (by omega)
  have hx : mkR n d = mkR (if n.sign * d.sign < 0 then -mag n else mag n) (mag d) := by
    have g := mag_sg n
    rcases k2 with ⟨h1, h2⟩ | ⟨h1, h2⟩ | ⟨h1, h2⟩
    · rw [mag_neg d h1, h2, ← show mkR (-n) (-d) = mkR n d from Rat.neg_divInt_neg n d, Int.mul_neg_one]
      congr 1
      split <;> omega
    · exact absurd h1 d0
    · rw [mag_pos d (by omega), h2, Int.mul_one]
      congr 1
      split <;> omega
  have HL := lowest_q (mkR n d) (n.sign * d.sign) (mag n) (mag d) m1 (by omega) m5 (by omega) hx
  rw [whi_of (mag n) m1 (by omega), wlo_of (mag n) m1 (by omega), whi_of (mag d) m3 (by omega), wlo_of (mag d) m3 (by omega)] at HL
  exact rmake_walk n d n.sign d.sign (n.sign * d.sign) (mag n) (mag d) _ _ _ _ _ _ w (by simpa using d0) (IntWalk.i64_in _ (by omega)) (Lib.hid (rsign_any _)) (Lib.hid (rsign_any _)) (Lib.hid (rsize_any _ n1 n2)) (Lib.hid (rsize_any _ d1 d2)) (Lib.hid HL) (Lib.hid (rfit_q _))
end Go.Proofs.Ytdimmnoflenfhaa
/-
  Layer 5, the reference: where the first and the last bright place lie, as it reckons them.
-/
namespace Go.Proofs.Ytdimmnoflenfhaa
set_option linter.unusedVariables false

theorem FX_at {t : Int} {zs : List Int} {p : Nat} {v : Int} (hv : zs[p]? = some v) (hvt : t ≤ v) : FX t zs p = some ((p : Int) : Rat) := by
  have hf : fb t (zs.drop p) = some 0 := fb_some.2 ⟨v, by rw [List.getElem?_drop]; exact hv, hvt, fun k hk => absurd hk (by omega)⟩
  unfold FX br
  rw [hf]
  show some (((p : Int) : Rat) + pl t (zs.drop p) 0) = _
  rw [pl_zero, Rat.add_zero]
theorem FX_off {t : Int} {zs : List Int} {p : Nat} (hb : ∀ (j : Nat) (w : Int), p ≤ j → zs[j]? = some w → w < t) : FX t zs p = none := by
  have hf : fb t (zs.drop p) = none := fb_none.2 fun u hu => by
    obtain ⟨k, hk⟩ := List.mem_iff_getElem?.1 hu
    rw [List.getElem?_drop] at hk
    exact hb (p + k) u (by omega) hk
  unfold FX br
  rw [hf]; rfl
theorem FX_hit {t : Int} {zs : List Int} {p i : Nat} {u v : Int} (hz : okP zs) (hi : p ≤ i) (hu : zs[i]? = some u) (hv : zs[i + 1]? = some v) (hb : ∀ (j : Nat) (w : Int), p ≤ j → j ≤ i → zs[j]? = some w → w < t) (hvt : t ≤ v) :
    FX t zs p = some (mkR ((i : Int) * (v - u) + t - u) (v - u)) ∧ 1 ≤ v - u ∧ v - u ≤ 255 ∧ -40000 ≤ (i : Int) * (v - u) + t - u ∧ (i : Int) * (v - u) + t - u ≤ 40000 := by
  have hf : fb t (zs.drop p) = some (i + 1 - p) := fb_some.2 ⟨v, by rw [List.getElem?_drop, show p + (i + 1 - p) = i + 1 by omega]; exact hv, hvt, fun k hk w hw => by
    rw [List.getElem?_drop] at hw
    exact hb (p + k) w (by omega) (by omega) hw⟩
  have hl : i + 1 < zs.length := (List.getElem?_eq_some_iff.1 hv).1
  have hq : V8 (zs.drop p) := fun w hw => hz.2 w (List.mem_of_mem_drop hw)
  have hll : (zs.drop p).length ≤ 64 := by rw [List.length_drop]; have := hz.1.2; omega
  have e0 : nArg (p : Int) 1 t (zs.drop p) (i + 1 - p) = ((i : Int) * (v - u) + t - u, v - u) := by
    unfold nArg
    rw [if_neg (by omega), List.getElem?_drop, List.getElem?_drop, show p + (i + 1 - p) = i + 1 by omega, show p + (i + 1 - p - 1) = i by omega, hv, hu]
    have : ((i + 1 - p : Nat) : Int) = (i : Int) + 1 - (p : Int) := by omega
    simp only [Option.getD_some, this]
    congr 1
    have : ((p : Int) + 1 * ((i : Int) + 1 - (p : Int))) = (i : Int) + 1 := by omega
    rw [this, Int.add_mul]; omega
  have hpl := nArg_place (p := (p : Int)) (s := 1) hq (.inl rfl) ⟨by omega, by have := hz.1.2; omega⟩ hll hf
  rw [e0] at hpl
  obtain ⟨e, d1, d2, n1, n2⟩ := hpl
  refine ⟨?_, d1, d2, n1, n2⟩
  rw [FX_way]
  unfold br
  rw [hf]
  exact congrArg some e
end Go.Proofs.Ytdimmnoflenfhaa
/-
  Layer 5, the reference: the first bright place.
-/
namespace Go.Proofs.Ytdimmnoflenfhaa
open Go.RowKit Go.Shelf
set_option linter.unusedVariables false
set_option linter.unusedSimpArgs false

set_option maxHeartbeats 1000000 in
theorem rmade (n d : Int) (hd : 1 ≤ d) (hd2 : d ≤ 255) (n1 : -40000 ≤ n) (n2 : n ≤ 40000) (w : World) :
    Calls Try.prog 89 #[.int .i64 n, .int .i64 d] w fun e w' => e = .returned (.agg #[.int .i64 (fn (mkR n d)), .int .i64 (fd (mkR n d))]) ∧ Below w.heap.size w w' := by
  have HM := Lib.hid fun w => rmake_q n d w (by omega) (by omega) (by omega) (by omega) (by omega)
  have hf := mkR_fits' n d (by omega) (by omega) (by omega) (by omega) (by omega)
  rw [rn_yes hf, rd_yes hf] at HM
  clear hf
  go_enter Try.func89, Try.ntmps89
  go_wp2_with (go_at_call 112; (with_reducible refine (HM.out _).mono ?_); rintro e w1 ⟨rfl, hb⟩; (first | ((with_reducible have k0 := Blk.later hb (Blk.new rfl)); skip; obtain ⟨a0, b0⟩ := k0.read; have zl := k0.lt) | ((try (have zk := k0.lt; (first | ((with_reducible refine Blk.keepG hb k0 (fun h => ?_) ?_); (focus ((repeat' (first | (with_reducible assumption) | ((with_reducible refine Blk.new ?_); first | rfl | (simp; done)) | (with_reducible refine Blk.later (by assumption) ?_) | (with_reducible refine Blk.alloc ?_) | (with_reducible refine Blk.drewN ?_) | (with_reducible refine Blk.drew ?_) | (with_reducible refine Blk.other ?_ (by first | omega | (simp; done) | (simp; omega))))); done)); clear k0; intro k0) | (with_reducible replace k0 := Blk.later hb (Blk.set (Blk.set k0))) | (with_reducible replace k0 := Blk.later hb (Blk.set k0))); clear a0 b0; obtain ⟨a0, b0⟩ := k0.read; have zl := k0.lt)))))
  exact bodyPost_ret (v := .agg #[.int .i64 (fn (mkR n d)), .int .i64 (fd (mkR n d))]) (by simp only [results, Try.results89]; go_simp) rfl ⟨rfl, by (repeat' (first | (with_reducible exact Below.refl _ _) | (with_reducible assumption) | (with_reducible refine belowThru ?_ (by assumption)) | (with_reducible refine belowAlloc ?_) | (with_reducible refine Below.setCell ?_ (by first | omega | (simp; done) | (simp; omega)) _) | (with_reducible refine Below.drew ?_) | (with_reducible refine below_drewN ?_ _)))⟩
theorem ret_f {P : Program} {fn : Func} {R : Ending → World → Prop} {a : Act} {W : World} {v : Value} {b2 : Nat} {c2 : Array Value} {t : TypeId} (k2 : Blk W b2 c2 t)
    (h : (∀ i : Nat, W.cell? ⟨b2, i, none⟩ = c2[i]?) → (results fn a.tmps).run P W = .ok v W) (hd : a.defers = []) (hR : R (.returned v) W) : bodyPost P fn R .ret a W :=
  bodyPost_ret (h k2.cells) hd hR
set_option maxRecDepth 100000 in
set_option maxHeartbeats 8000000 in
theorem rfirst_at (a : Option Addr) (n c : Nat) (zs : List Int) (t v : Int) (p : Nat) (A B : Int) (hp : p < n) (hn : n ≤ 64) (hv : zs[p]? = some v) (hvt : t ≤ v) (w : World) (hR : Row w a n (iv zs)) (HM : Hid (∀ w, Calls Try.prog 89 #[.int .i64 p, .int .i64 1] w fun e w' => e = .returned (.agg #[.int .i64 A, .int .i64 B]) ∧ Below w.heap.size w w')) :
    Calls Try.prog 53 #[.slice a n c, .int .i64 t, .int .i64 p] w fun e w' => e = .returned (.tuple #[.agg #[.int .i64 A, .int .i64 B], .bool true]) ∧ Below w.heap.size w w' := by
  obtain ⟨bb, oo, v', e1, hbb, hv', cv⟩ := hR.int (show p < n by omega)
  cases e1
  obtain rfl : v' = v := Option.some.inj (hv'.symm.trans hv)
  have q1 : (0 : Int) ≤ (p : Int) := by omega
  have q2 : (p : Int) < (n : Int) := by omega
  have hd : decide (t ≤ v') = true := decide_eq_true hvt
  clear hv hv' hR
  go_enter Try.func53, Try.ntmps53
  go_wp2_with fail
  refine (HM.out _).mono ?_
  rintro e w1 ⟨rfl, hb⟩
  have k0 : Blk w1 w.heap.size #[.int .i64 0, .int .i64 0] 23 := Blk.later hb (by (repeat' (first | (with_reducible assumption) | ((with_reducible refine Blk.new ?_); first | rfl | (simp; done)) | (with_reducible refine Blk.later (by assumption) ?_) | (with_reducible refine Blk.alloc ?_) | (with_reducible refine Blk.drewN ?_) | (with_reducible refine Blk.drew ?_) | (with_reducible refine Blk.other ?_ (by first | omega | (simp; done) | (simp; omega))))))
  have hB : Below w.heap.size w w1 := by (repeat' (first | (with_reducible exact Below.refl _ _) | (with_reducible assumption) | (with_reducible refine belowThru ?_ (by assumption)) | (with_reducible refine belowAlloc ?_) | (with_reducible refine Below.setCell ?_ (by first | omega | (simp; done) | (simp; omega)) _) | (with_reducible refine Below.drew ?_) | (with_reducible refine below_drewN ?_ _)))
  clear hb
  obtain ⟨a0, b0⟩ := k0.read
  go_wp2
  have k0s := Blk.set2 (u := .int .i64 A) (v := .int .i64 B) k0
  exact ret_f k0s (v := .tuple #[.agg #[.int .i64 A, .int .i64 B], .bool true]) (fun ra => by clear a0 b0; simp only [results, Try.results53]; go_simp) rfl ⟨rfl, by (repeat' (first | (with_reducible exact Below.refl _ _) | (with_reducible assumption) | (with_reducible refine belowThru ?_ (by assumption)) | (with_reducible refine belowAlloc ?_) | (with_reducible refine Below.setCell ?_ (by first | omega | (simp; done) | (simp; omega)) _) | (with_reducible refine Below.drew ?_) | (with_reducible refine below_drewN ?_ _)))⟩
set_option maxRecDepth 100000 in
set_option maxHeartbeats 16000000 in
theorem rfirst_in (a : Option Addr) (n c : Nat) (zs : List Int) (t : Int) (p : Nat) (hp : p < n) (hz : okP zs) (hl : zs.length = n) (w : World) (hR : Row w a n (iv zs)) (h0 : ∀ v, zs[p]? = some v → v < t) (ht : okT t) :
    Calls Try.prog 53 #[.slice a n c, .int .i64 t, .int .i64 p] w fun e w' => e = .returned (.tuple #[.agg #[.int .i64 (oN (FX t zs p)), .int .i64 (oD (FX t zs p))], .bool (FX t zs p).isSome]) ∧ Below w.heap.size w w' := by
  have hn : n ≤ 64 := by have := hz.1.2; omega
  have HR := Lib.hid hR
  have HH := Lib.hid (fun (i : Nat) (u v : Int) => FX_hit (t := t) (p := p) (i := i) (u := u) (v := v) hz)
  have HN := Lib.hid (fun hb => FX_off (t := t) (zs := zs) (p := p) hb)
  have HZ := Lib.hid hz
  have H0 := Lib.hid h0
  have HL := Lib.hid hl
  obtain ⟨v0, hv0⟩ : ∃ v, zs[p]? = some v := ⟨_, List.getElem?_eq_getElem (by omega)⟩
  obtain ⟨bb, oo, v', e1, hbb, hv', cv⟩ := hR.int (show p < n by omega)
  cases e1
  have q1 : (0 : Int) ≤ (p : Int) := by omega
  have q2 : (p : Int) < (n : Int) := by omega
  have hd : decide (t ≤ v') = false := by have := h0 v' hv'; simp; omega
  clear hv' hR h0 hz hv0 hl
  go_enter Try.func53, Try.ntmps53
  go_wp2_with fail
  clear cv hd
  obtain ⟨Wp, hWp⟩ : ∃ Wp, w.alloc (.cells #[.int .i64 0, .int .i64 0] 23) = Wp := ⟨_, rfl⟩
  have k0 : Blk Wp w.heap.size #[.int .i64 0, .int .i64 0] 23 := by rw [← hWp]; exact Blk.new rfl
  have hB : Below w.heap.size w Wp := by rw [← hWp]; (repeat' (first | (with_reducible exact Below.refl _ _) | (with_reducible assumption) | (with_reducible refine belowThru ?_ (by assumption)) | (with_reducible refine belowAlloc ?_) | (with_reducible refine Below.setCell ?_ (by first | omega | (simp; done) | (simp; omega)) _) | (with_reducible refine Below.drew ?_) | (with_reducible refine below_drewN ?_ _)))
  rw [hWp]; clear hWp
  go_loopw [8] (fun i wr => ∃ k : Nat, p ≤ k ∧ k < n ∧ i = .int .i64 k ∧ Hid (∀ (j : Nat) (w : Int), p ≤ j → j ≤ k → zs[j]? = some w → w < t) ∧ Wp = wr) (fun i _ => n - (intOf i).toNat)
  case atStart => exact ⟨p, Nat.le_refl _, hp, rfl, Lib.hid (fun j w hj hj' hw => by
    obtain rfl : j = p := by omega
    exact H0.out w hw), rfl⟩
  case round =>
    obtain ⟨k, hpk, hk, rfl, HB, rfl⟩ := hrel
    have r0 : (0 : Int) ≤ (k : Int) := by omega
    have r1 : (k : Int) < (n : Int) := by omega
    have w1 : IntKind.i64.wrap ((k : Int) + 1) = ((k + 1 : Nat) : Int) := by push_cast; exact IntWalk.i64_in _ (by omega)
    by_cases hlt : k + 1 < n
    · have r2 : ((k + 1 : Nat) : Int) < (n : Int) := by omega
      have r3 : (0 : Int) ≤ ((k + 1 : Nat) : Int) := by omega
      obtain ⟨bb, oo, v, e1, hbb, hv, cv⟩ := (HR.out.later hB).int (show k + 1 < n by omega)
      cases e1
      obtain ⟨bb2, oo2, u, e2, hbb2, hu, cu⟩ := (HR.out.later hB).int (show k < n by omega)
      cases e2
      by_cases hvt : t ≤ v
      · obtain ⟨e, d1, d2, n1, n2⟩ := HH.out k u v hpk hu hv HB.out hvt
        have hd : decide (t ≤ v) = true := decide_eq_true hvt
        have w2 : IntKind.i64.wrap (v - u) = v - u := IntWalk.i64_in _ (by omega)
        have b0 := HZ.out.2 u (List.mem_of_getElem? hu)
        have w3 : IntKind.i64.wrap ((k : Int) * (v - u)) = (k : Int) * (v - u) := IntWalk.i64_in _ (by have := ht.1; have := ht.2; omega)
        have w4 : IntKind.i64.wrap ((k : Int) * (v - u) + t) = (k : Int) * (v - u) + t := IntWalk.i64_in _ (by have := ht.1; have := ht.2; omega)
        have w5 : IntKind.i64.wrap ((k : Int) * (v - u) + t - u) = (k : Int) * (v - u) + t - u := IntWalk.i64_in _ (by omega)
        have HM := Lib.hid (rmade ((k : Int) * (v - u) + t - u) (v - u) d1 d2 n1 n2)
        have He := Lib.hid e
        clear hv hu e b0 d1 d2 n1 n2 hvt
        go_wp2_with fail
        go_quiet (fail)
        go_wp2_with fail
        refine (HM.out _).mono ?_
        rintro e w9 ⟨rfl, hb⟩
        replace k0 := Blk.later hb k0
        replace hB : Below w.heap.size w w9 := belowThru (by (repeat' (first | (with_reducible exact Below.refl _ _) | (with_reducible assumption) | (with_reducible refine belowThru ?_ (by assumption)) | (with_reducible refine belowAlloc ?_) | (with_reducible refine Below.setCell ?_ (by first | omega | (simp; done) | (simp; omega)) _) | (with_reducible refine Below.drew ?_) | (with_reducible refine below_drewN ?_ _)))) hb
        clear hb cv cu
        obtain ⟨a0, b0⟩ := k0.read
        go_wp2
        have k0s := Blk.set2 (u := .int .i64 (fn (mkR ((k : Int) * (v - u) + t - u) (v - u)))) (v := .int .i64 (fd (mkR ((k : Int) * (v - u) + t - u) (v - u)))) k0
        exact ret_f k0s (v := .tuple #[.agg #[.int .i64 (fn (mkR ((k : Int) * (v - u) + t - u) (v - u))), .int .i64 (fd (mkR ((k : Int) * (v - u) + t - u) (v - u)))], .bool true]) (fun ra => by clear a0 b0; simp only [results, Try.results53]; go_simp) rfl ⟨by rw [He.out]; rfl, by (repeat' (first | (with_reducible exact Below.refl _ _) | (with_reducible assumption) | (with_reducible refine belowThru ?_ (by assumption)) | (with_reducible refine belowAlloc ?_) | (with_reducible refine Below.setCell ?_ (by first | omega | (simp; done) | (simp; omega)) _) | (with_reducible refine Below.drew ?_) | (with_reducible refine below_drewN ?_ _)))⟩
      · have hd : decide (t ≤ v) = false := decide_eq_false hvt
        have HV := Lib.hid hv
        have HT := Lib.hid hvt
        clear hv hu cu hvt
        go_wp2
        go_roundw
        case rel => exact ⟨k + 1, by omega, by omega, by first | trivial | rfl, Lib.hid (fun j x hj hj' hx => by
          by_cases hjk : j ≤ k
          · exact HB.out j x hj hjk hx
          · obtain rfl : j = k + 1 := by omega
            rw [HV.out] at hx; cases hx
            have := HT.out; omega), by first | trivial | rfl⟩
        case measure => simp [intOf]; omega
    · have r2 : ¬ ((k + 1 : Nat) : Int) < (n : Int) := by omega
      have hd2 : decide (((k + 1 : Nat) : Int) < (n : Int)) = false := decide_eq_false r2
      have e := Lib.hid (HN.out (fun j x hj hx => HB.out j x hj (by have := (List.getElem?_eq_some_iff.1 hx).1; have := HL.out; omega) hx))
      obtain ⟨a0, b0⟩ := k0.read
      go_wp2
      have k0s := Blk.set2 (u := .int .i64 0) (v := .int .i64 0) k0
      exact ret_f k0s (v := .tuple #[.agg #[.int .i64 0, .int .i64 0], .bool false]) (fun ra => by clear a0 b0; simp only [results, Try.results53]; go_simp) rfl ⟨by rw [e.out]; rfl, by (repeat' (first | (with_reducible exact Below.refl _ _) | (with_reducible assumption) | (with_reducible refine belowThru ?_ (by assumption)) | (with_reducible refine belowAlloc ?_) | (with_reducible refine Below.setCell ?_ (by first | omega | (simp; done) | (simp; omega)) _) | (with_reducible refine Below.drew ?_) | (with_reducible refine below_drewN ?_ _)))⟩
end Go.Proofs.Ytdimmnoflenfhaa
/-
  Layer 5, the reference: First.
-/
namespace Go.Proofs.Ytdimmnoflenfhaa
open Go.RowKit Go.Shelf
set_option linter.unusedVariables false
set_option linter.unusedSimpArgs false

set_option maxRecDepth 100000 in
set_option maxHeartbeats 16000000 in
theorem rfi_e (a : Option Addr) (n c : Nat) (zs : List Int) (t p A B E : Int) (w : World) (hR : Row w a n (iv zs)) (hE : (E != 0) = true) (HA : Hid (∀ w, Row w a n (iv zs) → Calls Try.prog 52 #[.slice a n c, .int .i64 t, .int .i64 p, .int .i64 0] w fun e w' => e = .returned (.int .i64 E) ∧ Below w.heap.size w w')) :
    Calls Try.prog 20 #[.slice a n c, .int .i64 t, .int .i64 p] w fun e w' => e = .returned (.tuple #[.agg #[.int .i64 0, .int .i64 0], .int .i64 E]) ∧ Below w.heap.size w w' := by
  have HR := Lib.hid hR
  clear hR
  go_enter Try.func20, Try.ntmps20
  go_wp2_with fail
  refine (HA.out _ (HR.out.later (by (repeat' first | (with_reducible exact Below.refl _ _) | (with_reducible assumption) | (with_reducible refine belowThru ?_ (by assumption)) | (with_reducible refine belowAlloc ?_))))).mono ?_
  rintro e w1 ⟨rfl, hb⟩
  have k0 : Blk w1 w.heap.size #[.int .i64 0, .int .i64 0] 23 := Blk.later hb (by (repeat' (first | (with_reducible assumption) | ((with_reducible refine Blk.new ?_); first | rfl | (simp; done)) | (with_reducible refine Blk.later (by assumption) ?_) | (with_reducible refine Blk.alloc ?_) | (with_reducible refine Blk.drewN ?_) | (with_reducible refine Blk.drew ?_) | (with_reducible refine Blk.other ?_ (by first | omega | (simp; done) | (simp; omega))))))
  have hB : Below w.heap.size w w1 := by (repeat' (first | (with_reducible exact Below.refl _ _) | (with_reducible assumption) | (with_reducible refine belowThru ?_ (by assumption)) | (with_reducible refine belowAlloc ?_) | (with_reducible refine Below.setCell ?_ (by first | omega | (simp; done) | (simp; omega)) _) | (with_reducible refine Below.drew ?_) | (with_reducible refine below_drewN ?_ _)))
  clear hb
  obtain ⟨a0, b0⟩ := k0.read
  go_wp2
  have k0s := Blk.set2 (u := .int .i64 0) (v := .int .i64 0) k0
  exact ret_f k0s (v := .tuple #[.agg #[.int .i64 0, .int .i64 0], .int .i64 E]) (fun ra => by clear a0 b0; simp only [results, Try.results20]; go_simp) rfl ⟨rfl, by (repeat' (first | (with_reducible exact Below.refl _ _) | (with_reducible assumption) | (with_reducible refine belowThru ?_ (by assumption)) | (with_reducible refine belowAlloc ?_) | (with_reducible refine Below.setCell ?_ (by first | omega | (simp; done) | (simp; omega)) _) | (with_reducible refine Below.drew ?_) | (with_reducible refine below_drewN ?_ _)))⟩
set_option maxRecDepth 100000 in
set_option maxHeartbeats 16000000 in
theorem rfi_false (a : Option Addr) (n c : Nat) (zs : List Int) (t p A B E : Int) (w : World) (hR : Row w a n (iv zs)) (HA : Hid (∀ w, Row w a n (iv zs) → Calls Try.prog 52 #[.slice a n c, .int .i64 t, .int .i64 p, .int .i64 0] w fun e w' => e = .returned (.int .i64 0) ∧ Below w.heap.size w w')) (HF : Hid (∀ w, Row w a n (iv zs) → Calls Try.prog 53 #[.slice a n c, .int .i64 t, .int .i64 p] w fun e w' => e = .returned (.tuple #[.agg #[.int .i64 A, .int .i64 B], .bool false]) ∧ Below w.heap.size w w')) :
    Calls Try.prog 20 #[.slice a n c, .int .i64 t, .int .i64 p] w fun e w' => e = .returned (.tuple #[.agg #[.int .i64 0, .int .i64 0], .int .i64 6]) ∧ Below w.heap.size w w' := by
  have HR := Lib.hid hR
  clear hR
  go_enter Try.func20, Try.ntmps20
  go_wp2_with fail
  refine (HA.out _ (HR.out.later (by (repeat' first | (with_reducible exact Below.refl _ _) | (with_reducible assumption) | (with_reducible refine belowThru ?_ (by assumption)) | (with_reducible refine belowAlloc ?_))))).mono ?_
  rintro e w1 ⟨rfl, hb⟩
  have k0 : Blk w1 w.heap.size #[.int .i64 0, .int .i64 0] 23 := Blk.later hb (by (repeat' (first | (with_reducible assumption) | ((with_reducible refine Blk.new ?_); first | rfl | (simp; done)) | (with_reducible refine Blk.later (by assumption) ?_) | (with_reducible refine Blk.alloc ?_) | (with_reducible refine Blk.drewN ?_) | (with_reducible refine Blk.drew ?_) | (with_reducible refine Blk.other ?_ (by first | omega | (simp; done) | (simp; omega))))))
  have hB : Below w.heap.size w w1 := by (repeat' (first | (with_reducible exact Below.refl _ _) | (with_reducible assumption) | (with_reducible refine belowThru ?_ (by assumption)) | (with_reducible refine belowAlloc ?_) | (with_reducible refine Below.setCell ?_ (by first | omega | (simp; done) | (simp; omega)) _) | (with_reducible refine Below.drew ?_) | (with_reducible refine below_drewN ?_ _)))
  clear hb
  obtain ⟨a0, b0⟩ := k0.read
  go_wp2_with fail
  refine (HF.out _ (HR.out.later (by (repeat' first | (with_reducible exact Below.refl _ _) | (with_reducible assumption) | (with_reducible refine belowThru ?_ (by assumption)) | (with_reducible refine belowAlloc ?_))))).mono ?_
  rintro e w2 ⟨rfl, hb⟩
  clear a0 b0
  replace k0 := Blk.later hb k0
  replace hB := belowThru hB hb
  clear hb
  have k1 : Blk (w2.alloc (.cells #[.int .i64 A, .int .i64 B] 23)) w2.heap.size #[.int .i64 A, .int .i64 B] 23 := Blk.new rfl
  obtain ⟨a0, b0⟩ := k0.read
  have y0 := k0.lt
  go_wp2
  have k0s := Blk.alloc (o := .cells #[.int .i64 A, .int .i64 B] 23) (Blk.set2 (u := .int .i64 0) (v := .int .i64 0) k0)
  exact ret_f k0s (v := .tuple #[.agg #[.int .i64 0, .int .i64 0], .int .i64 6]) (fun ra => by clear a0 b0; simp only [results, Try.results20]; go_simp) rfl ⟨rfl, by (repeat' (first | (with_reducible exact Below.refl _ _) | (with_reducible assumption) | (with_reducible refine belowThru ?_ (by assumption)) | (with_reducible refine belowAlloc ?_) | (with_reducible refine Below.setCell ?_ (by first | omega | (simp; done) | (simp; omega)) _) | (with_reducible refine Below.drew ?_) | (with_reducible refine below_drewN ?_ _)))⟩
set_option maxRecDepth 100000 in
set_option maxHeartbeats 16000000 in
theorem rfi_true (a : Option Addr) (n c : Nat) (zs : List Int) (t p A B E : Int) (w : World) (hR : Row w a n (iv zs)) (HA : Hid (∀ w, Row w a n (iv zs) → Calls Try.prog 52 #[.slice a n c, .int .i64 t, .int .i64 p, .int .i64 0] w fun e w' => e = .returned (.int .i64 0) ∧ Below w.heap.size w w')) (HF : Hid (∀ w, Row w a n (iv zs) → Calls Try.prog 53 #[.slice a n c, .int .i64 t, .int .i64 p] w fun e w' => e = .returned (.tuple #[.agg #[.int .i64 A, .int .i64 B], .bool true]) ∧ Below w.heap.size w w')) :
    Calls Try.prog 20 #[.slice a n c, .int .i64 t, .int .i64 p] w fun e w' => e = .returned (.tuple #[.agg #[.int .i64 A, .int .i64 B], .int .i64 0]) ∧ Below w.heap.size w w' := by
  have HR := Lib.hid hR
  clear hR
  go_enter Try.func20, Try.ntmps20
  go_wp2_with fail
  refine (HA.out _ (HR.out.later (by (repeat' first | (with_reducible exact Below.refl _ _) | (with_reducible assumption) | (with_reducible refine belowThru ?_ (by assumption)) | (with_reducible refine belowAlloc ?_))))).mono ?_
  rintro e w1 ⟨rfl, hb⟩
  have k0 : Blk w1 w.heap.size #[.int .i64 0, .int .i64 0] 23 := Blk.later hb (by (repeat' (first | (with_reducible assumption) | ((with_reducible refine Blk.new ?_); first | rfl | (simp; done)) | (with_reducible refine Blk.later (by assumption) ?_) | (with_reducible refine Blk.alloc ?_) | (with_reducible refine Blk.drewN ?_) | (with_reducible refine Blk.drew ?_) | (with_reducible refine Blk.other ?_ (by first | omega | (simp; done) | (simp; omega))))))
  have hB : Below w.heap.size w w1 := by (repeat' (first | (with_reducible exact Below.refl _ _) | (with_reducible assumption) | (with_reducible refine belowThru ?_ (by assumption)) | (with_reducible refine belowAlloc ?_) | (with_reducible refine Below.setCell ?_ (by first | omega | (simp; done) | (simp; omega)) _) | (with_reducible refine Below.drew ?_) | (with_reducible refine below_drewN ?_ _)))
  clear hb
  obtain ⟨a0, b0⟩ := k0.read
  go_wp2_with fail
  refine (HF.out _ (HR.out.later (by (repeat' first | (with_reducible exact Below.refl _ _) | (with_reducible assumption) | (with_reducible refine belowThru ?_ (by assumption)) | (with_reducible refine belowAlloc ?_))))).mono ?_
  rintro e w2 ⟨rfl, hb⟩
  clear a0 b0
  replace k0 := Blk.later hb k0
  replace hB := belowThru hB hb
  clear hb
  have k1 : Blk (w2.alloc (.cells #[.int .i64 A, .int .i64 B] 23)) w2.heap.size #[.int .i64 A, .int .i64 B] 23 := Blk.new rfl
  obtain ⟨a0, b0⟩ := k0.read
  have y0 := k0.lt
  go_wp2
  have k0s := Blk.alloc (o := .cells #[.int .i64 A, .int .i64 B] 23) (Blk.set2 (u := .int .i64 A) (v := .int .i64 B) k0)
  exact ret_f k0s (v := .tuple #[.agg #[.int .i64 A, .int .i64 B], .int .i64 0]) (fun ra => by clear a0 b0; simp only [results, Try.results20]; go_simp) rfl ⟨rfl, by (repeat' (first | (with_reducible exact Below.refl _ _) | (with_reducible assumption) | (with_reducible refine belowThru ?_ (by assumption)) | (with_reducible refine belowAlloc ?_) | (with_reducible refine Below.setCell ?_ (by first | omega | (simp; done) | (simp; omega)) _) | (with_reducible refine Below.drew ?_) | (with_reducible refine below_drewN ?_ _)))⟩
set_option maxRecDepth 100000 in
set_option maxHeartbeats 16000000 in
theorem rla_e (a : Option Addr) (n c : Nat) (zs : List Int) (t p A B E : Int) (w : World) (hR : Row w a n (iv zs)) (hE : (E != 0) = true) (HA : Hid (∀ w, Row w a n (iv zs) → Calls Try.prog 52 #[.slice a n c, .int .i64 t, .int .i64 p, .int .i64 0] w fun e w' => e = .returned (.int .i64 E) ∧ Below w.heap.size w w')) :
    Calls Try.prog 21 #[.slice a n c, .int .i64 t, .int .i64 p] w fun e w' => e = .returned (.tuple #[.agg #[.int .i64 0, .int .i64 0], .int .i64 E]) ∧ Below w.heap.size w w' := by
  have HR := Lib.hid hR
  clear hR
  go_enter Try.func21, Try.ntmps21
  go_wp2_with fail
  refine (HA.out _ (HR.out.later (by (repeat' first | (with_reducible exact Below.refl _ _) | (with_reducible assumption) | (with_reducible refine belowThru ?_ (by assumption)) | (with_reducible refine belowAlloc ?_))))).mono ?_
  rintro e w1 ⟨rfl, hb⟩
  have k0 : Blk w1 w.heap.size #[.int .i64 0, .int .i64 0] 23 := Blk.later hb (by (repeat' (first | (with_reducible assumption) | ((with_reducible refine Blk.new ?_); first | rfl | (simp; done)) | (with_reducible refine Blk.later (by assumption) ?_) | (with_reducible refine Blk.alloc ?_) | (with_reducible refine Blk.drewN ?_) | (with_reducible refine Blk.drew ?_) | (with_reducible refine Blk.other ?_ (by first | omega | (simp; done) | (simp; omega))))))
  have hB : Below w.heap.size w w1 := by (repeat' (first | (with_reducible exact Below.refl _ _) | (with_reducible assumption) | (with_reducible refine belowThru ?_ (by assumption)) | (with_reducible refine belowAlloc ?_) | (with_reducible refine Below.setCell ?_ (by first | omega | (simp; done) | (simp; omega)) _) | (with_reducible refine Below.drew ?_) | (with_reducible refine below_drewN ?_ _)))
  clear hb
  obtain ⟨a0, b0⟩ := k0.read
  go_wp2
  have k0s := Blk.set2 (u := .int .i64 0) (v := .int .i64 0) k0
  exact ret_f k0s (v := .tuple #[.agg #[.int .i64 0, .int .i64 0], .int .i64 E]) (fun ra => by clear a0 b0; simp only [results, Try.results21]; go_simp) rfl ⟨rfl, by (repeat' (first | (with_reducible exact Below.refl _ _) | (with_reducible assumption) | (with_reducible refine belowThru ?_ (by assumption)) | (with_reducible refine belowAlloc ?_) | (with_reducible refine Below.setCell ?_ (by first | omega | (simp; done) | (simp; omega)) _) | (with_reducible refine Below.drew ?_) | (with_reducible refine below_drewN ?_ _)))⟩
set_option maxRecDepth 100000 in
set_option maxHeartbeats 16000000 in
theorem rla_false (a : Option Addr) (n c : Nat) (zs : List Int) (t p A B E : Int) (w : World) (hR : Row w a n (iv zs)) (HA : Hid (∀ w, Row w a n (iv zs) → Calls Try.prog 52 #[.slice a n c, .int .i64 t, .int .i64 p, .int .i64 0] w fun e w' => e = .returned (.int .i64 0) ∧ Below w.heap.size w w')) (HF : Hid (∀ w, Row w a n (iv zs) → Calls Try.prog 54 #[.slice a n c, .int .i64 t, .int .i64 p] w fun e w' => e = .returned (.tuple #[.agg #[.int .i64 A, .int .i64 B], .bool false]) ∧ Below w.heap.size w w')) :
    Calls Try.prog 21 #[.slice a n c, .int .i64 t, .int .i64 p] w fun e w' => e = .returned (.tuple #[.agg #[.int .i64 0, .int .i64 0], .int .i64 6]) ∧ Below w.heap.size w w' := by
  have HR := Lib.hid hR
  clear hR
  go_enter Try.func21, Try.ntmps21
  go_wp2_with fail
  refine (HA.out _ (HR.out.later (by (repeat' first | (with_reducible exact Below.refl _ _) | (with_reducible assumption) | (with_reducible refine belowThru ?_ (by assumption)) | (with_reducible refine belowAlloc ?_))))).mono ?_
  rintro e w1 ⟨rfl, hb⟩
  have k0 : Blk w1 w.heap.size #[.int .i64 0, .int .i64 0] 23 := Blk.later hb (by (repeat' (first | (with_reducible assumption) | ((with_reducible refine Blk.new ?_); first | rfl | (simp; done)) | (with_reducible refine Blk.later (by assumption) ?_) | (with_reducible refine Blk.alloc ?_) | (with_reducible refine Blk.drewN ?_) | (with_reducible refine Blk.drew ?_) | (with_reducible refine Blk.other ?_ (by first | omega | (simp; done) | (simp; omega))))))
  have hB : Below w.heap.size w w1 := by (repeat' (first | (with_reducible exact Below.refl _ _) | (with_reducible assumption) | (with_reducible refine belowThru ?_ (by assumption)) | (with_reducible refine belowAlloc ?_) | (with_reducible refine Below.setCell ?_ (by first | omega | (simp; done) | (simp; omega)) _) | (with_reducible refine Below.drew ?_) | (with_reducible refine below_drewN ?_ _)))
  clear hb
  obtain ⟨a0, b0⟩ := k0.read
  go_wp2_with fail
  refine (HF.out _ (HR.out.later (by (repeat' first | (with_reducible exact Below.refl _ _) | (with_reducible assumption) | (with_reducible refine belowThru ?_ (by assumption)) | (with_reducible refine belowAlloc ?_))))).mono ?_
  rintro e w2 ⟨rfl, hb⟩
  clear a0 b0
  replace k0 := Blk.later hb k0
  replace hB := belowThru hB hb
  clear hb
  have k1 : Blk (w2.alloc (.cells #[.int .i64 A, .int .i64 B] 23)) w2.heap.size #[.int .i64 A, .int .i64 B] 23 := Blk.new rfl
  obtain ⟨a0, b0⟩ := k0.read
  have y0 := k0.lt
  go_wp2
  have k0s := Blk.alloc (o := .cells #[.int .i64 A, .int .i64 B] 23) (Blk.set2 (u := .int .i64 0) (v := .int .i64 0) k0)
  exact ret_f k0s (v := .tuple #[.agg #[.int .i64 0, .int .i64 0], .int .i64 6]) (fun ra => by clear a0 b0; simp only [results, Try.results21]; go_simp) rfl ⟨rfl, by (repeat' (first | (with_reducible exact Below.refl _ _) | (with_reducible assumption) | (with_reducible refine belowThru ?_ (by assumption)) | (with_reducible refine belowAlloc ?_) | (with_reducible refine Below.setCell ?_ (by first | omega | (simp; done) | (simp; omega)) _) | (with_reducible refine Below.drew ?_) | (with_reducible refine below_drewN ?_ _)))⟩
set_option maxRecDepth 100000 in
set_option maxHeartbeats 16000000 in
theorem rla_true (a : Option Addr) (n c : Nat) (zs : List Int) (t p A B E : Int) (w : World) (hR : Row w a n (iv zs)) (HA : Hid (∀ w, Row w a n (iv zs) → Calls Try.prog 52 #[.slice a n c, .int .i64 t, .int .i64 p, .int .i64 0] w fun e w' => e = .returned (.int .i64 0) ∧ Below w.heap.size w w')) (HF : Hid (∀ w, Row w a n (iv zs) → Calls Try.prog 54 #[.slice a n c, .int .i64 t, .int .i64 p] w fun e w' => e = .returned (.tuple #[.agg #[.int .i64 A, .int .i64 B], .bool true]) ∧ Below w.heap.size w w')) :
    Calls Try.prog 21 #[.slice a n c, .int .i64 t, .int .i64 p] w fun e w' => e = .returned (.tuple #[.agg #[.int .i64 A, .int .i64 B], .int .i64 0]) ∧ Below w.heap.size w w' := by
  have HR := Lib.hid hR
  clear hR
  go_enter Try.func21, Try.ntmps21
  go_wp2_with fail
  refine (HA.out _ (HR.out.later (by (repeat' first | (with_reducible exact Below.refl _ _) | (with_reducible assumption) | (with_reducible refine belowThru ?_ (by assumption)) | (with_reducible refine belowAlloc ?_))))).mono ?_
  rintro e w1 ⟨rfl, hb⟩
  have k0 : Blk w1 w.heap.size #[.int .i64 0, .int .i64 0] 23 := Blk.later hb (by (repeat' (first | (with_reducible assumption) | ((with_reducible refine Blk.new ?_); first | rfl | (simp; done)) | (with_reducible refine Blk.later (by assumption) ?_) | (with_reducible refine Blk.alloc ?_) | (with_reducible refine Blk.drewN ?_) | (with_reducible refine Blk.drew ?_) | (with_reducible refine Blk.other ?_ (by first | omega | (simp; done) | (simp; omega))))))
  have hB : Below w.heap.size w w1 := by (repeat' (first | (with_reducible exact Below.refl _ _) | (with_reducible assumption) | (with_reducible refine belowThru ?_ (by assumption)) | (with_reducible refine belowAlloc ?_) | (with_reducible refine Below.setCell ?_ (by first | omega | (simp; done) | (simp; omega)) _) | (with_reducible refine Below.drew ?_) | (with_reducible refine below_drewN ?_ _)))
  clear hb
  obtain ⟨a0, b0⟩ := k0.read
  go_wp2_with fail
  refine (HF.out _ (HR.out.later (by (repeat' first | (with_reducible exact Below.refl _ _) | (with_reducible assumption) | (with_reducible refine belowThru ?_ (by assumption)) | (with_reducible refine belowAlloc ?_))))).mono ?_
  rintro e w2 ⟨rfl, hb⟩
  clear a0 b0
  replace k0 := Blk.later hb k0
  replace hB := belowThru hB hb
  clear hb
  have k1 : Blk (w2.alloc (.cells #[.int .i64 A, .int .i64 B] 23)) w2.heap.size #[.int .i64 A, .int .i64 B] 23 := Blk.new rfl
  obtain ⟨a0, b0⟩ := k0.read
  have y0 := k0.lt
  go_wp2
  have k0s := Blk.alloc (o := .cells #[.int .i64 A, .int .i64 B] 23) (Blk.set2 (u := .int .i64 A) (v := .int .i64 B) k0)
  exact ret_f k0s (v := .tuple #[.agg #[.int .i64 A, .int .i64 B], .int .i64 0]) (fun ra => by clear a0 b0; simp only [results, Try.results21]; go_simp) rfl ⟨rfl, by (repeat' (first | (with_reducible exact Below.refl _ _) | (with_reducible assumption) | (with_reducible refine belowThru ?_ (by assumption)) | (with_reducible refine belowAlloc ?_) | (with_reducible refine Below.setCell ?_ (by first | omega | (simp; done) | (simp; omega)) _) | (with_reducible refine Below.drew ?_) | (with_reducible refine below_drewN ?_ _)))⟩
end Go.Proofs.Ytdimmnoflenfhaa
/-
  Layer 5, the reference: First answers as the code does.
-/
namespace Go.Proofs.Ytdimmnoflenfhaa
open Go.RowKit
set_option linter.unusedVariables false

theorem asQ_no {zs : List Int} {t p nz : Int} (h : ¬ okP zs) : asQ zs t p nz = 50 := if_pos h
theorem asQ_arg {zs : List Int} {t p nz : Int} (h : okP zs) (k : ¬ (okT t ∧ inL zs p ∧ okN nz)) : asQ zs t p nz = 2 := by unfold asQ; rw [if_neg (fun g => g h), if_pos k]
theorem asQ_ok {zs : List Int} {t p nz : Int} (h : okP zs) (k : okT t ∧ inL zs p ∧ okN nz) : asQ zs t p nz = 0 := by unfold asQ; rw [if_neg (fun g => g h), if_neg (fun g => g k)]
theorem okN_zero : okN 0 := ⟨by decide, by decide⟩
theorem mkR_int (k : Int) : mkR k 1 = (k : Rat) := (mkR_of (k : Rat) k 1 (by decide) (by rw [show ((1 : Int) : Rat) = 1 from rfl, Rat.mul_one])).symm
theorem rfirstOf_any (a : Option Addr) (n c : Nat) (zs : List Int) (t : Int) (p : Nat) (hp : p < n) (hz : okP zs) (hl : zs.length = n) (ht : okT t) (w : World) (hR : Row w a n (iv zs)) :
    Calls Try.prog 53 #[.slice a n c, .int .i64 t, .int .i64 p] w fun e w' => e = .returned (.tuple #[.agg #[.int .i64 (oN (FX t zs p)), .int .i64 (oD (FX t zs p))], .bool (FX t zs p).isSome]) ∧ Below w.heap.size w w' := by
  obtain ⟨v, hv⟩ : ∃ v, zs[p]? = some v := ⟨_, List.getElem?_eq_getElem (by omega)⟩
  have hn : n ≤ 64 := by have := hz.1.2; omega
  by_cases hvt : t ≤ v
  · have h := rfirst_at a n c zs t v p _ _ hp hn hv hvt w hR (Lib.hid (rmade (p : Int) 1 (by decide) (by decide) (by omega) (by omega)))
    rw [FX_at hv hvt, ← mkR_int]
    exact h
  · exact rfirst_in a n c zs t p hp hz hl w hR (fun x hx => by rw [hv] at hx; cases hx; omega) ht
theorem rfirst_any (a : Option Addr) (n c : Nat) (zs : List Int) (t p : Int) (hn : n ≤ maxLen) (w : World) (hR : Row w a n (iv zs)) :
    Calls Try.prog 20 #[.slice a n c, .int .i64 t, .int .i64 p] w fun e w' => e = .returned (.tuple #[.agg #[.int .i64 (oN (fiO t zs p)), .int .i64 (oD (fiO t zs p))], .int .i64 (fiE t zs p)]) ∧ Below w.heap.size w w' := by
  have hx : zs.length = n := by have := hR.1; rwa [iv_length] at this
  have HA := fun w hR => asked_any a n c zs t p 0 hn w hR
  by_cases hz : okP zs
  · by_cases h1 : okT t ∧ inL zs p
    · rw [asQ_ok hz ⟨h1.1, h1.2, okN_zero⟩] at HA
      obtain ⟨k, rfl⟩ : ∃ k : Nat, p = (k : Int) := ⟨p.toNat, by have := h1.2.1; omega⟩
      have hk : k < n := by have := h1.2.2; omega
      have HF := fun w hR => rfirstOf_any a n c zs t k hk hz hx h1.1 w hR
      rw [fiO_ok ⟨hz, h1.1, h1.2⟩, show fiE t zs k = _ from asE_ok hz h1, Int.toNat_natCast]
      cases ho : FX t zs k with
      | none => rw [ho] at HF; exact rfi_false a n c zs t k _ _ 0 w hR (Lib.hid HA) (Lib.hid HF)
      | some x => rw [ho] at HF; exact rfi_true a n c zs t k _ _ 0 w hR (Lib.hid HA) (Lib.hid HF)
    · rw [asQ_arg hz (fun g => h1 ⟨g.1, g.2.1⟩)] at HA
      rw [fiO_bad (fun g => h1 g.2), show fiE t zs p = _ from asE_arg hz h1]
      exact rfi_e a n c zs t p 0 0 2 w hR rfl (Lib.hid HA)
  · rw [asQ_no hz] at HA
    rw [fiO_bad (fun g => hz g.1), show fiE t zs p = _ from asE_no hz]
    exact rfi_e a n c zs t p 0 0 50 w hR rfl (Lib.hid HA)
end Go.Proofs.Ytdimmnoflenfhaa
/-
  Layer 5, the reference: where the last bright place lies, as it reckons it.
-/
namespace Go.Proofs.Ytdimmnoflenfhaa
set_option linter.unusedVariables false

theorem takeRev_get {zs : List Int} {p j : Nat} (hp : p < zs.length) (hj : j ≤ p) : (zs.take (p + 1)).reverse[j]? = zs[p - j]? := by
  have hl : (zs.take (p + 1)).length = p + 1 := by rw [List.length_take]; omega
  rw [List.getElem?_reverse (by omega), hl, List.getElem?_take_of_lt (by omega)]
  congr 1
theorem LX_at {t : Int} {zs : List Int} {p : Nat} {v : Int} (hv : zs[p]? = some v) (hvt : t ≤ v) : LX t zs p = some ((p : Int) : Rat) := by
  have hp : p < zs.length := (List.getElem?_eq_some_iff.1 hv).1
  have hf : fb t (zs.take (p + 1)).reverse = some 0 := fb_some.2 ⟨v, by rw [takeRev_get hp (by omega)]; exact hv, hvt, fun k hk => absurd hk (by omega)⟩
  rw [LX_way]
  unfold br
  rw [hf]
  show some (((p : Int) : Rat) + ((-1 : Int) : Rat) * pl t (zs.take (p + 1)).reverse 0) = _
  rw [pl_zero, Rat.mul_zero, Rat.add_zero]
theorem LX_off {t : Int} {zs : List Int} {p : Nat} (hb : ∀ (j : Nat) (w : Int), j ≤ p → zs[j]? = some w → w < t) : LX t zs p = none := by
  have hf : fb t (zs.take (p + 1)).reverse = none := fb_none.2 fun u hu => by
    obtain ⟨k, hk⟩ := List.mem_iff_getElem?.1 (List.mem_reverse.1 hu)
    have hlt := (List.getElem?_eq_some_iff.1 hk).1
    rw [List.length_take] at hlt
    rw [List.getElem?_take_of_lt (by omega)] at hk
    exact hb k u (by omega) hk
  unfold LX br
  rw [hf]; rfl
theorem LX_hit {t : Int} {zs : List Int} {p i : Nat} {u v : Int} (hz : okP zs) (hpl : p < zs.length) (hi : i + 1 ≤ p) (hu : zs[i + 1]? = some u) (hv : zs[i]? = some v) (hb : ∀ (j : Nat) (w : Int), i < j → j ≤ p → zs[j]? = some w → w < t) (hvt : t ≤ v) :
    LX t zs p = some (mkR (((i + 1 : Nat) : Int) * (v - u) - (t - u)) (v - u)) ∧ 1 ≤ v - u ∧ v - u ≤ 255 ∧ -40000 ≤ ((i + 1 : Nat) : Int) * (v - u) - (t - u) ∧ ((i + 1 : Nat) : Int) * (v - u) - (t - u) ≤ 40000 := by
  have hf : fb t (zs.take (p + 1)).reverse = some (p - i) := fb_some.2 ⟨v, by rw [takeRev_get hpl (by omega), show p - (p - i) = i by omega]; exact hv, hvt, fun k hk w hw => by
    rw [takeRev_get hpl (by omega)] at hw
    exact hb (p - k) w (by omega) (by omega) hw⟩
  have hq : V8 (zs.take (p + 1)).reverse := fun w hw => hz.2 w (List.mem_of_mem_take (List.mem_reverse.1 hw))
  have hll : (zs.take (p + 1)).reverse.length ≤ 64 := by rw [List.length_reverse, List.length_take]; have := hz.1.2; omega
  have e0 : nArg (p : Int) (-1) t (zs.take (p + 1)).reverse (p - i) = (((i + 1 : Nat) : Int) * (v - u) - (t - u), v - u) := by
    unfold nArg
    rw [if_neg (by omega), takeRev_get hpl (by omega), takeRev_get hpl (by omega), show p - (p - i) = i by omega, show p - (p - i - 1) = i + 1 by omega, hv, hu]
    have h1 : ((p - i : Nat) : Int) = (p : Int) - (i : Int) := by omega
    simp only [Option.getD_some, h1]
    congr 1
    have h2 : ((p : Int) + -1 * ((p : Int) - (i : Int))) = (i : Int) := by omega
    have h3 : ((i + 1 : Nat) : Int) = (i : Int) + 1 := by omega
    rw [h2, h3, Int.add_mul]; omega
  have hpl2 := nArg_place (p := (p : Int)) (s := -1) hq (.inr rfl) ⟨by omega, by have := hz.1.2; omega⟩ hll hf
  rw [e0] at hpl2
  obtain ⟨e, d1, d2, n1, n2⟩ := hpl2
  refine ⟨?_, d1, d2, n1, n2⟩
  rw [LX_way]
  unfold br
  rw [hf]
  exact congrArg some e
end Go.Proofs.Ytdimmnoflenfhaa
/-
  Layer 5, the reference: the last bright place.
-/
namespace Go.Proofs.Ytdimmnoflenfhaa
open Go.RowKit Go.Shelf
set_option linter.unusedVariables false
set_option linter.unusedSimpArgs false

set_option maxRecDepth 100000 in
set_option maxHeartbeats 8000000 in
theorem rlast_at (a : Option Addr) (n c : Nat) (zs : List Int) (t v : Int) (p : Nat) (A B : Int) (hp : p < n) (hn : n ≤ 64) (hv : zs[p]? = some v) (hvt : t ≤ v) (w : World) (hR : Row w a n (iv zs)) (HM : Hid (∀ w, Calls Try.prog 89 #[.int .i64 p, .int .i64 1] w fun e w' => e = .returned (.agg #[.int .i64 A, .int .i64 B]) ∧ Below w.heap.size w w')) :
    Calls Try.prog 54 #[.slice a n c, .int .i64 t, .int .i64 p] w fun e w' => e = .returned (.tuple #[.agg #[.int .i64 A, .int .i64 B], .bool true]) ∧ Below w.heap.size w w' := by
  obtain ⟨bb, oo, v', e1, hbb, hv', cv⟩ := hR.int (show p < n by omega)
  cases e1
  obtain rfl : v' = v := Option.some.inj (hv'.symm.trans hv)
  have q1 : (0 : Int) ≤ (p : Int) := by omega
  have q2 : (p : Int) < (n : Int) := by omega
  have hd : decide (t ≤ v') = true := decide_eq_true hvt
  clear hv hv' hR
  go_enter Try.func54, Try.ntmps54
  go_wp2_with fail
  refine (HM.out _).mono ?_
  rintro e w1 ⟨rfl, hb⟩
  have k0 : Blk w1 w.heap.size #[.int .i64 0, .int .i64 0] 23 := Blk.later hb (by (repeat' (first | (with_reducible assumption) | ((with_reducible refine Blk.new ?_); first | rfl | (simp; done)) | (with_reducible refine Blk.later (by assumption) ?_) | (with_reducible refine Blk.alloc ?_) | (with_reducible refine Blk.drewN ?_) | (with_reducible refine Blk.drew ?_) | (with_reducible refine Blk.other ?_ (by first | omega | (simp; done) | (simp; omega))))))
  have hB : Below w.heap.size w w1 := by (repeat' (first | (with_reducible exact Below.refl _ _) | (with_reducible assumption) | (with_reducible refine belowThru ?_ (by assumption)) | (with_reducible refine belowAlloc ?_) | (with_reducible refine Below.setCell ?_ (by first | omega | (simp; done) | (simp; omega)) _) | (with_reducible refine Below.drew ?_) | (with_reducible refine below_drewN ?_ _)))
  clear hb
  obtain ⟨a0, b0⟩ := k0.read
  go_wp2
  have k0s := Blk.set2 (u := .int .i64 A) (v := .int .i64 B) k0
  exact ret_f k0s (v := .tuple #[.agg #[.int .i64 A, .int .i64 B], .bool true]) (fun ra => by clear a0 b0; simp only [results, Try.results54]; go_simp) rfl ⟨rfl, by (repeat' (first | (with_reducible exact Below.refl _ _) | (with_reducible assumption) | (with_reducible refine belowThru ?_ (by assumption)) | (with_reducible refine belowAlloc ?_) | (with_reducible refine Below.setCell ?_ (by first | omega | (simp; done) | (simp; omega)) _) | (with_reducible refine Below.drew ?_) | (with_reducible refine below_drewN ?_ _)))⟩
set_option maxRecDepth 100000 in
set_option maxHeartbeats 16000000 in
theorem rlast_in (a : Option Addr) (n c : Nat) (zs : List Int) (t : Int) (p : Nat) (hp : p < n) (hz : okP zs) (hl : zs.length = n) (w : World) (hR : Row w a n (iv zs)) (h0 : ∀ v, zs[p]? = some v → v < t) (ht : okT t) :
    Calls Try.prog 54 #[.slice a n c, .int .i64 t, .int .i64 p] w fun e w' => e = .returned (.tuple #[.agg #[.int .i64 (oN (LX t zs p)), .int .i64 (oD (LX t zs p))], .bool (LX t zs p).isSome]) ∧ Below w.heap.size w w' := by
  have hn : n ≤ 64 := by have := hz.1.2; omega
  have HR := Lib.hid hR
  have HH := Lib.hid (fun (i : Nat) (u v : Int) => LX_hit (t := t) (p := p) (i := i) (u := u) (v := v) hz (by omega))
  have HN := Lib.hid (fun hb => LX_off (t := t) (zs := zs) (p := p) hb)
  have HZ := Lib.hid hz
  have H0 := Lib.hid h0
  have HL := Lib.hid hl
  obtain ⟨v0, hv0⟩ : ∃ v, zs[p]? = some v := ⟨_, List.getElem?_eq_getElem (by omega)⟩
  obtain ⟨bb, oo, v', e1, hbb, hv', cv⟩ := hR.int (show p < n by omega)
  cases e1
  have q1 : (0 : Int) ≤ (p : Int) := by omega
  have q2 : (p : Int) < (n : Int) := by omega
  have hd : decide (t ≤ v') = false := by have := h0 v' hv'; simp; omega
  clear hv' hR h0 hz hv0 hl
  go_enter Try.func54, Try.ntmps54
  go_wp2_with fail
  clear cv hd
  obtain ⟨Wp, hWp⟩ : ∃ Wp, w.alloc (.cells #[.int .i64 0, .int .i64 0] 23) = Wp := ⟨_, rfl⟩
  have k0 : Blk Wp w.heap.size #[.int .i64 0, .int .i64 0] 23 := by rw [← hWp]; exact Blk.new rfl
  have hB : Below w.heap.size w Wp := by rw [← hWp]; (repeat' (first | (with_reducible exact Below.refl _ _) | (with_reducible assumption) | (with_reducible refine belowThru ?_ (by assumption)) | (with_reducible refine belowAlloc ?_) | (with_reducible refine Below.setCell ?_ (by first | omega | (simp; done) | (simp; omega)) _) | (with_reducible refine Below.drew ?_) | (with_reducible refine below_drewN ?_ _)))
  rw [hWp]; clear hWp
  go_loopw [8] (fun i wr => ∃ m : Nat, m ≤ p ∧ i = .int .i64 m ∧ Hid (∀ (j : Nat) (w : Int), m ≤ j → j ≤ p → zs[j]? = some w → w < t) ∧ Wp = wr) (fun i _ => (intOf i).toNat)
  case atStart => exact ⟨p, Nat.le_refl _, rfl, Lib.hid (fun j w hj hj' hw => by
    obtain rfl : j = p := by omega
    exact H0.out w hw), rfl⟩
  case round =>
    obtain ⟨m, hm, rfl, HB, rfl⟩ := hrel
    have r0 : (0 : Int) ≤ (m : Int) := by omega
    have r1 : (m : Int) < (n : Int) := by omega
    by_cases hlt : 0 < m
    · obtain ⟨k, hk⟩ : ∃ k, m = k + 1 := ⟨m - 1, by omega⟩
      have r2 : (k : Int) < (n : Int) := by omega
      have r3 : (0 : Int) ≤ (k : Int) := by omega
      have r4 : (0 : Int) < (m : Int) := by omega
      have w1 : IntKind.i64.wrap ((m : Int) - 1) = (k : Int) := by rw [show (m : Int) - 1 = (k : Int) by omega]; exact IntWalk.i64_in _ (by omega)
      obtain ⟨bb, oo, v, e1, hbb, hv, cv⟩ := (HR.out.later hB).int (show k < n by omega)
      cases e1
      obtain ⟨bb2, oo2, u, e2, hbb2, hu, cu⟩ := (HR.out.later hB).int (show m < n by omega)
      cases e2
      by_cases hvt : t ≤ v
      · obtain ⟨e, d1, d2, n1, n2⟩ := HH.out k u v (by omega) (by rw [← hk]; exact hu) hv (fun j x hj hj' hx => HB.out j x (by omega) hj' hx) hvt
        rw [show ((k + 1 : Nat) : Int) = (m : Int) by omega] at e n1 n2
        have hd : decide (t ≤ v) = true := decide_eq_true hvt
        have w2 : IntKind.i64.wrap (v - u) = v - u := IntWalk.i64_in _ (by omega)
        have b0 := HZ.out.2 u (List.mem_of_getElem? hu)
        have w3 : IntKind.i64.wrap ((m : Int) * (v - u)) = (m : Int) * (v - u) := IntWalk.i64_in _ (by have := ht.1; have := ht.2; omega)
        have w4 : IntKind.i64.wrap (t - u) = t - u := IntWalk.i64_in _ (by have := ht.1; have := ht.2; omega)
        have w5 : IntKind.i64.wrap ((m : Int) * (v - u) - (t - u)) = (m : Int) * (v - u) - (t - u) := IntWalk.i64_in _ (by omega)
        have HM := Lib.hid (rmade ((m : Int) * (v - u) - (t - u)) (v - u) d1 d2 n1 n2)
        have He := Lib.hid e
        clear hv hu e b0 d1 d2 n1 n2 hvt hk
        go_wp2_with fail
        go_quiet (fail)
        go_wp2_with fail
        refine (HM.out _).mono ?_
        rintro e w9 ⟨rfl, hb⟩
        replace k0 := Blk.later hb k0
        replace hB : Below w.heap.size w w9 := belowThru (by (repeat' (first | (with_reducible exact Below.refl _ _) | (with_reducible assumption) | (with_reducible refine belowThru ?_ (by assumption)) | (with_reducible refine belowAlloc ?_) | (with_reducible refine Below.setCell ?_ (by first | omega | (simp; done) | (simp; omega)) _) | (with_reducible refine Below.drew ?_) | (with_reducible refine below_drewN ?_ _)))) hb
        clear hb cv cu
        obtain ⟨a0, b0⟩ := k0.read
        go_wp2
        have k0s := Blk.set2 (u := .int .i64 (fn (mkR ((m : Int) * (v - u) - (t - u)) (v - u)))) (v := .int .i64 (fd (mkR ((m : Int) * (v - u) - (t - u)) (v - u)))) k0
        exact ret_f k0s (v := .tuple #[.agg #[.int .i64 (fn (mkR ((m : Int) * (v - u) - (t - u)) (v - u))), .int .i64 (fd (mkR ((m : Int) * (v - u) - (t - u)) (v - u)))], .bool true]) (fun ra => by clear a0 b0; simp only [results, Try.results54]; go_simp) rfl ⟨by rw [He.out]; rfl, by (repeat' (first | (with_reducible exact Below.refl _ _) | (with_reducible assumption) | (with_reducible refine belowThru ?_ (by assumption)) | (with_reducible refine belowAlloc ?_) | (with_reducible refine Below.setCell ?_ (by first | omega | (simp; done) | (simp; omega)) _) | (with_reducible refine Below.drew ?_) | (with_reducible refine below_drewN ?_ _)))⟩
      · have hd : decide (t ≤ v) = false := decide_eq_false hvt
        have HV := Lib.hid hv
        have HT := Lib.hid hvt
        clear hv hu cu hvt
        go_wp2
        go_roundw
        case rel => exact ⟨k, by omega, by first | trivial | rfl, Lib.hid (fun j x hj hj' hx => by
          by_cases hjk : m ≤ j
          · exact HB.out j x hjk hj' hx
          · obtain rfl : j = k := by omega
            rw [HV.out] at hx; cases hx
            have := HT.out; omega), by first | trivial | rfl⟩
        case measure => simp [intOf]; omega
    · have r2 : ¬ (0 : Int) < (m : Int) := by omega
      have hd2 : decide ((0 : Int) < (m : Int)) = false := decide_eq_false r2
      have e := Lib.hid (HN.out (fun j x hj hx => HB.out j x (by omega) hj hx))
      obtain ⟨a0, b0⟩ := k0.read
      go_wp2
      have k0s := Blk.set2 (u := .int .i64 0) (v := .int .i64 0) k0
      exact ret_f k0s (v := .tuple #[.agg #[.int .i64 0, .int .i64 0], .bool false]) (fun ra => by clear a0 b0; simp only [results, Try.results54]; go_simp) rfl ⟨by rw [e.out]; rfl, by (repeat' (first | (with_reducible exact Below.refl _ _) | (with_reducible assumption) | (with_reducible refine belowThru ?_ (by assumption)) | (with_reducible refine belowAlloc ?_) | (with_reducible refine Below.setCell ?_ (by first | omega | (simp; done) | (simp; omega)) _) | (with_reducible refine Below.drew ?_) | (with_reducible refine below_drewN ?_ _)))⟩
end Go.Proofs.Ytdimmnoflenfhaa
/-
  Layer 5, the reference: Last answers as the code does.
-/
namespace Go.Proofs.Ytdimmnoflenfhaa
open Go.RowKit
set_option linter.unusedVariables false

theorem rlastOf_any (a : Option Addr) (n c : Nat) (zs : List Int) (t : Int) (p : Nat) (hp : p < n) (hz : okP zs) (hl : zs.length = n) (ht : okT t) (w : World) (hR : Row w a n (iv zs)) :
    Calls Try.prog 54 #[.slice a n c, .int .i64 t, .int .i64 p] w fun e w' => e = .returned (.tuple #[.agg #[.int .i64 (oN (LX t zs p)), .int .i64 (oD (LX t zs p))], .bool (LX t zs p).isSome]) ∧ Below w.heap.size w w' := by
  obtain ⟨v, hv⟩ : ∃ v, zs[p]? = some v := ⟨_, List.getElem?_eq_getElem (by omega)⟩
  have hn : n ≤ 64 := by have := hz.1.2; omega
  by_cases hvt : t ≤ v
  · have h := rlast_at a n c zs t v p _ _ hp hn hv hvt w hR (Lib.hid (rmade (p : Int) 1 (by decide) (by decide) (by omega) (by omega)))
    rw [LX_at hv hvt, ← mkR_int]
    exact h
  · exact rlast_in a n c zs t p hp hz hl w hR (fun x hx => by rw [hv] at hx; cases hx; omega) ht
theorem rlast_any (a : Option Addr) (n c : Nat) (zs : List Int) (t p : Int) (hn : n ≤ maxLen) (w : World) (hR : Row w a n (iv zs)) :
    Calls Try.prog 21 #[.slice a n c, .int .i64 t, .int .i64 p] w fun e w' => e = .returned (.tuple #[.agg #[.int .i64 (oN (laO t zs p)), .int .i64 (oD (laO t zs p))], .int .i64 (laE t zs p)]) ∧ Below w.heap.size w w' := by
  have hx : zs.length = n := by have := hR.1; rwa [iv_length] at this
  have HA := fun w hR => asked_any a n c zs t p 0 hn w hR
  by_cases hz : okP zs
  · by_cases h1 : okT t ∧ inL zs p
    · rw [asQ_ok hz ⟨h1.1, h1.2, okN_zero⟩] at HA
      obtain ⟨k, rfl⟩ : ∃ k : Nat, p = (k : Int) := ⟨p.toNat, by have := h1.2.1; omega⟩
      have hk : k < n := by have := h1.2.2; omega
      have HF := fun w hR => rlastOf_any a n c zs t k hk hz hx h1.1 w hR
      rw [laO_ok ⟨hz, h1.1, h1.2⟩, show laE t zs k = _ from asE_ok hz h1, Int.toNat_natCast]
      cases ho : LX t zs k with
      | none => rw [ho] at HF; exact rla_false a n c zs t k _ _ 0 w hR (Lib.hid HA) (Lib.hid HF)
      | some x => rw [ho] at HF; exact rla_true a n c zs t k _ _ 0 w hR (Lib.hid HA) (Lib.hid HF)
    · rw [asQ_arg hz (fun g => h1 ⟨g.1, g.2.1⟩)] at HA
      rw [laO_bad (fun g => h1 g.2), show laE t zs p = _ from asE_arg hz h1]
      exact rla_e a n c zs t p 0 0 2 w hR rfl (Lib.hid HA)
  · rw [asQ_no hz] at HA
    rw [laO_bad (fun g => hz g.1), show laE t zs p = _ from asE_no hz]
    exact rla_e a n c zs t p 0 0 50 w hR rfl (Lib.hid HA)
end Go.Proofs.Ytdimmnoflenfhaa
/-
  Layer 5, the reference: upper and lower profiles; lists that are compared and copied.
-/
namespace Go.Proofs.Ytdimmnoflenfhaa
open Go.RowKit Go.Shelf
set_option linter.unusedVariables false
set_option linter.unusedSimpArgs false

/-! ### Lists that are compared, and copied -/
set_option maxHeartbeats 2000000 in
theorem sameInts_any (a b : Option Addr) (n m c d : Nat) (xs ys : List Int) (hn : n ≤ maxLen) (w : World) (hR : Row w a n (iv xs)) (hS : Row w b m (iv ys)) :
    Calls Try.prog 28 #[.slice a n c, .slice b m d] w fun e w' => e = .returned (.bool (decide (xs = ys))) ∧ Below w.heap.size w w' := by
  unfold maxLen at hn
  have hx : xs.length = n := by have := hR.1; rwa [iv_length] at this
  have hy : ys.length = m := by have := hS.1; rwa [iv_length] at this
  by_cases hl : n = m
  · subst hl
    have HX := Lib.hid hx; have HY := Lib.hid hy; have HR := Lib.hid hR; have HS := Lib.hid hS
    clear hx hy hR hS
    go_enter Try.func28, Try.ntmps28
    go_wp2
    go_loopw [5] (fun i wr => ∃ k : Nat, k ≤ n ∧ i = .int .i64 k ∧ Hid (xs.take k = ys.take k) ∧ Below w.heap.size w wr) (fun i _ => n - (intOf i).toNat)
    case atStart => exact ⟨0, Nat.zero_le _, rfl, (show xs.take 0 = ys.take 0 by simp), by (repeat' (first | (with_reducible exact Below.refl _ _) | (with_reducible assumption) | (with_reducible refine belowThru ?_ (by assumption)) | (with_reducible refine belowAlloc ?_) | (with_reducible refine Below.setCell ?_ (by first | omega | (simp; done) | (simp; omega)) _) | (with_reducible refine Below.drew ?_) | (with_reducible refine below_drewN ?_ _)))⟩
    case round =>
      obtain ⟨k, hk, rfl, ht, hB⟩ := hrel
      by_cases hlt : k < n
      · obtain ⟨b1, o1, z1, rfl, l1, h1, c1⟩ := HR.out.int hlt
        obtain ⟨b2, o2, z2, rfl, l2, h2, c2⟩ := HS.out.int hlt
        have c1 := cell_later hB c1
        have c2 := cell_later hB c2
        have p0 : (0 : Int) ≤ (k : Int) := by omega
        have p1 : (k : Int) < (n : Int) := by omega
        by_cases he : z1 = z2
        · subst he
          have ht' : Hid (xs.take (k + 1) = ys.take (k + 1)) := by show _ = _; rw [List.take_add_one, List.take_add_one, h1, h2, ht.out]
          clear h1 h2
          go_wp2_with fail
          go_quiet (fail)
          go_wp2
          go_roundw
          case rel => exact ⟨k + 1, hlt, by go_num, ht', by (repeat' (first | (with_reducible exact Below.refl _ _) | (with_reducible assumption) | (with_reducible refine belowThru ?_ (by assumption)) | (with_reducible refine belowAlloc ?_) | (with_reducible refine Below.setCell ?_ (by first | omega | (simp; done) | (simp; omega)) _) | (with_reducible refine Below.drew ?_) | (with_reducible refine below_drewN ?_ _)))⟩
          case measure => simp [intOf]; omega
        · have hd : (z1 != z2) = true := by simpa using he
          have hz : decide (xs = ys) = false := decide_eq_false (fun e => he (by rw [e, h2] at h1; exact (Option.some.inj h1).symm))
          clear h1 h2 he
          go_wp2_with fail
          go_quiet (fail)
          go_wp2
          go_ret
          exact ⟨by first | rfl | (rw [hz]; rfl), by (repeat' (first | (with_reducible exact Below.refl _ _) | (with_reducible assumption) | (with_reducible refine belowThru ?_ (by assumption)) | (with_reducible refine belowAlloc ?_) | (with_reducible refine Below.setCell ?_ (by first | omega | (simp; done) | (simp; omega)) _) | (with_reducible refine Below.drew ?_) | (with_reducible refine below_drewN ?_ _)))⟩
      · have hz : decide (xs = ys) = true := decide_eq_true (by
          have h := ht.out
          rwa [List.take_of_length_le (by rw [HX.out]; omega), List.take_of_length_le (by rw [HY.out]; omega)] at h)
        go_wp2
        go_ret
        exact ⟨by first | rfl | (rw [hz]; rfl), by (repeat' (first | (with_reducible exact Below.refl _ _) | (with_reducible assumption) | (with_reducible refine belowThru ?_ (by assumption)) | (with_reducible refine belowAlloc ?_) | (with_reducible refine Below.setCell ?_ (by first | omega | (simp; done) | (simp; omega)) _) | (with_reducible refine Below.drew ?_) | (with_reducible refine below_drewN ?_ _)))⟩
  · have hd : ((n : Int) != (m : Int)) = true := by simp; omega
    rw [decide_eq_false (fun e : xs = ys => hl (by rw [← hx, ← hy, e]))]
    clear hR hS hx hy
    go_enter Try.func28, Try.ntmps28
    go_wp2
    go_ret
    exact ⟨rfl, by (repeat' (first | (with_reducible exact Below.refl _ _) | (with_reducible assumption) | (with_reducible refine belowThru ?_ (by assumption)) | (with_reducible refine belowAlloc ?_) | (with_reducible refine Below.setCell ?_ (by first | omega | (simp; done) | (simp; omega)) _) | (with_reducible refine Below.drew ?_) | (with_reducible refine below_drewN ?_ _)))⟩

theorem oneCell_iv (zs : List Int) : ∀ u ∈ iv zs, u.oneCell' = true := by
  intro u hu
  obtain ⟨z, -, rfl⟩ := List.mem_map.1 hu
  rfl
theorem add_pl (b off i : Nat) : (⟨b, off, none⟩ : Addr).add i = ⟨b, off + i, none⟩ := by
  unfold Addr.add; split <;> simp_all
/-- What append makes of an empty slice of the call's own and a slice that reads as a list. -/
theorem run_append_lit (ty : TypeId) (a : Option Addr) (n c B g : Nat) (zs : List Int) (h8 : n * 8 ≤ 140737488351232) (w : World) (hg : Blk w g #[] 3) (hB : B ≤ g) (hR : Row w a n (iv zs)) :
    ∃ (a' : Option Addr) (c' : Nat) (w' : World), (Builtin.append_ #[27, 27] ty #[.slice (some ⟨g, 0, none⟩) 0 0, .slice a n c]).run Try.prog w = .ok (.slice a' n c') w' ∧ Row w' a' n (iv zs) ∧ Below B w w' := by
  obtain ⟨i0, hi, hz0, hz1, hz2⟩ := info_parts info_tin
  have hlen : zs.length = n := by have := hR.1; rwa [iv_length] at this
  rcases a with _ | ad
  · have hn : n = 0 := by
      rcases Nat.eq_zero_or_pos n with h | h
      · exact h
      · obtain ⟨b, off, e, -⟩ := hR.2 h; cases e
    subst hn
    obtain rfl : zs = [] := List.eq_nil_of_length_eq_zero hlen
    refine ⟨some ⟨g, 0, none⟩, 0, w, ?_, ⟨rfl, fun h => absurd h (Nat.lt_irrefl 0)⟩, Below.refl _ _⟩
    simp [Builtin.append_, run_underlying Try.underlying27, sizeOf, typeInfo, hi, Builtin.lenOf, Builtin.firstCells, storeCells]
  · have hc : ∀ j u, (iv zs)[j]? = some u → w.cell? (ad.add j) = some u := by
      intro j u hu
      have hj : j < n := by have := (List.getElem?_eq_some_iff.1 hu).1; have := hR.1; omega
      obtain ⟨b, off, e, -, hc⟩ := hR.2 (by omega)
      cases e
      rw [add_pl, hc j hj, hu]
    have hlt := hg.lt
    obtain ⟨v', w', hrun, hown, hgr, -, -⟩ := run_append_own_at (P := Try.prog) w B 27 ty 3 i0 (.int .i64 0) 1 8 Try.underlying27 hi hz0 hz1 hz2 rfl (by omega) (.slice (some ⟨g, 0, none⟩) 0 0) 0 [] ⟨rfl, .inr ⟨g, 0, #[], rfl, hB, hg, Nat.le_refl _, Nat.zero_le _, rfl, rfl⟩⟩ ad n c (iv zs) (by rw [hR.1]; omega) hc (oneCell_iv zs) (by unfold maxLen; omega) (by omega) (by omega)
    have hBe : Below B w w' := (Below.refl _ w).grown hgr (by omega) (fun k hk => by simp [Value.ownBlock] at hk; omega)
    simp only [Nat.zero_add, List.nil_append] at hown
    obtain ⟨a', c', rfl, hr⟩ := ownsRow_row (zs := zs) (by rw [hlen]; exact hown)
    rw [hlen] at hr hrun
    exact ⟨a', c', w', hrun, hr, hBe⟩
theorem wp_append_row {P : Program} {o : Oper} {act : Act} {K : Act → World → Prop} {Q : Exit → Act → World → Prop} {w : World} (s x : Operand) (t : TypeId) (R : Value → World → Prop)
    (ho : o.op = .call { callee := .builtin .append, args := #[s, x], argTypes := #[t, t] }) (v u : Value) (hs : act.eval s = v) (hx : act.eval x = u)
    (hr : ∃ r w', (Builtin.append_ #[t, t] o.type #[v, u]).run P w = .ok r w' ∧ R r w')
    (h : ∀ r w', R r w' → K (act.put o.dst r) w') : o.wp P act w K Q := by
  obtain ⟨r, w', hrun, hR⟩ := hr
  unfold Oper.wp execOp
  simp only [ho, resolve, invoke, builtin, Sem.run_bind, Sem.run_pure, Result.andThen_ok, List.map_toArray, List.map_cons, List.map_nil, hs, hx, hrun]
  exact h r w' hR
theorem wpList_append_row {P : Program} {ops : Array Oper} {rest : List Oper} {o : Oper} {act : Act} {Q : Exit → Act → World → Prop} {w : World} (hgd : o.guard = none) (s x : Operand) (t : TypeId) (R : Value → World → Prop)
    (ho : o.op = .call { callee := .builtin .append, args := #[s, x], argTypes := #[t, t] }) (v u : Value) (hs : act.eval s = v) (hx : act.eval x = u)
    (hr : ∃ r w', (Builtin.append_ #[t, t] o.type #[v, u]).run P w = .ok r w' ∧ R r w')
    (h : ∀ r w', R r w' → wpList P ops Q rest (act.put o.dst r) w') : wpList P ops Q (o :: rest) act w :=
  wpList_plain hgd fun _ hK => wp_append_row s x t R ho v u hs hx hr fun r w' hR => hK _ _ (h r w' hR)
set_option maxHeartbeats 1000000 in
theorem rcheck_any (a : Option Addr) (n c : Nat) (zs : List Int) (hn : n ≤ maxLen) (w : World) (hR : Row w a n (iv zs)) :
    Calls Try.prog 27 #[.slice a n c] w fun e w' => e = .returned (.int .i64 (ckP zs)) ∧ Below w.heap.size w w' := by
  have HV := Lib.hid (fun w hR => val_all a n c zs hn w hR)
  have HR := Lib.hid hR
  clear hR
  by_cases hz : okP zs
  · rw [ckP_ok hz]
    rw [decide_eq_true hz] at HV
    clear hz
    go_enter Try.func27, Try.ntmps27
    go_wp2_with (go_at_call 60; (with_reducible refine (HV.out _ HR.out).mono ?_); rintro e w1 ⟨rfl, hb⟩)
    go_ret
    exact ⟨rfl, by (repeat' (first | (with_reducible exact Below.refl _ _) | (with_reducible assumption) | (with_reducible refine belowThru ?_ (by assumption)) | (with_reducible refine belowAlloc ?_) | (with_reducible refine Below.setCell ?_ (by first | omega | (simp; done) | (simp; omega)) _) | (with_reducible refine Below.drew ?_) | (with_reducible refine below_drewN ?_ _)))⟩
  · rw [ckP_no hz]
    rw [decide_eq_false hz] at HV
    clear hz
    go_enter Try.func27, Try.ntmps27
    go_wp2_with (go_at_call 60; (with_reducible refine (HV.out _ HR.out).mono ?_); rintro e w1 ⟨rfl, hb⟩)
    go_ret
    exact ⟨rfl, by (repeat' (first | (with_reducible exact Below.refl _ _) | (with_reducible assumption) | (with_reducible refine belowThru ?_ (by assumption)) | (with_reducible refine belowAlloc ?_) | (with_reducible refine Below.setCell ?_ (by first | omega | (simp; done) | (simp; omega)) _) | (with_reducible refine Below.drew ?_) | (with_reducible refine below_drewN ?_ _)))⟩
theorem upL_map {zs : List Int} {n : Nat} (hl : zs.length = n) (y : Int) : (List.range n).map (fun k => min 255 (max 0 (zs[k]?.getD 0 + y))) = zs.map fun v => min 255 (max 0 (v + y)) := by
  subst hl
  apply List.ext_getElem
  · simp
  · intro k h1 h2
    simp only [List.length_map, List.length_range] at h1
    simp [h1]
theorem upL_eq {zs : List Int} (hV : V8 zs) {y : Int} (h0 : 0 ≤ y) : (zs.map fun v => min 255 (max 0 (v + y))) = upL y zs := by
  unfold upL
  refine List.map_congr_left fun v hv => ?_
  have := hV v hv
  split <;> omega
theorem lwL_eq {zs : List Int} (hV : V8 zs) {y : Int} (h0 : 0 ≤ y) : (zs.map fun v => min 255 (max 0 (v + -y))) = lwL y zs := by
  unfold lwL
  refine List.map_congr_left fun v hv => ?_
  have := hV v hv
  split <;> omega
set_option maxHeartbeats 2000000 in
theorem rup_ok (a : Option Addr) (n c : Nat) (zs : List Int) (y : Int) (hz : okP zs) (hN : okN y) (w : World) (hR : Row w a n (iv zs)) :
    Calls Try.prog 23 #[.slice a n c, .int .i64 y] w fun e w' => ∃ (b : Option Addr) (d : Nat), e = .returned (.tuple #[.slice b n d, .int .i64 0]) ∧ Row w' b n (iv (upL y zs)) ∧ Below w.heap.size w w' := by
  have hl : zs.length = n := by have := hR.1; rwa [iv_length] at this
  have hn : n ≤ 64 := by have := hz.1.2; omega
  have hi : inL zs 0 := ⟨by omega, by have := hz.1.1; omega⟩
  have HA := Lib.hid (fun w hR => asked_any a n c zs 1 0 y (by unfold maxLen; omega) w hR)
  rw [asQ_ok hz ⟨⟨by decide, by decide⟩, hi, hN⟩] at HA
  have HM := Lib.hid (fun w hR => rmoved a n c zs y hn hz.2 (by have := hN.1; have := hN.2; omega) w hR)
  unfold RetM at HM
  rw [upL_map hl, upL_eq hz.2 hN.1] at HM
  have wy : IntKind.i64.wrap (-y) = -y := IntWalk.i64_in _ (by have := hN.1; have := hN.2; omega)
  have HR := Lib.hid hR
  clear hR hz hN hi hl hn
  go_enter Try.func23, Try.ntmps23
  go_wp2_with fail
  refine (HA.out _ (HR.out.later (by (repeat' first | (with_reducible exact Below.refl _ _) | (with_reducible assumption) | (with_reducible refine belowThru ?_ (by assumption)) | (with_reducible refine belowAlloc ?_))))).mono ?_
  rintro e w1 ⟨rfl, hb⟩
  go_wp2_with fail
  refine (HM.out _ (HR.out.later (by (repeat' first | (with_reducible exact Below.refl _ _) | (with_reducible assumption) | (with_reducible refine belowThru ?_ (by assumption)) | (with_reducible refine belowAlloc ?_))))).mono ?_
  rintro e w2 ⟨b, d, rfl, hq, hb2⟩
  have HQ := Lib.hid hq
  clear hq
  go_wp2
  exact bodyPost_ret (v := .tuple #[.slice b n d, .int .i64 0]) (by simp only [results, Try.results23]; go_simp) rfl ⟨b, d, rfl, HQ.out, by (repeat' (first | (with_reducible exact Below.refl _ _) | (with_reducible assumption) | (with_reducible refine belowThru ?_ (by assumption)) | (with_reducible refine belowAlloc ?_) | (with_reducible refine Below.setCell ?_ (by first | omega | (simp; done) | (simp; omega)) _) | (with_reducible refine Below.drew ?_) | (with_reducible refine below_drewN ?_ _)))⟩
set_option maxHeartbeats 2000000 in
theorem rup_no (a : Option Addr) (n c : Nat) (zs : List Int) (y : Int) (hn : n ≤ maxLen) (h : ¬ (okP zs ∧ okN y)) (w : World) (hR : Row w a n (iv zs)) :
    Calls Try.prog 23 #[.slice a n c, .int .i64 y] w fun e w' => e = .returned (.tuple #[.slice none 0 0, .int .i64 (if okP zs then 2 else 50)]) ∧ Below w.heap.size w w' := by
  obtain ⟨E, hE, hE0⟩ : ∃ E : Int, (if okP zs then (2 : Int) else 50) = E ∧ (E != 0) = true := by
    by_cases hz : okP zs
    · exact ⟨2, if_pos hz, rfl⟩
    · exact ⟨50, if_neg hz, rfl⟩
  have HA := Lib.hid (fun w hR => asked_any a n c zs 1 0 y hn w hR)
  rw [show asQ zs 1 0 y = E by
    by_cases hz : okP zs
    · rw [asQ_arg hz (fun g => h ⟨hz, g.2.2⟩), ← hE, if_pos hz]
    · rw [asQ_no hz, ← hE, if_neg hz]] at HA
  rw [hE]
  have HR := Lib.hid hR
  clear hR h hE
  go_enter Try.func23, Try.ntmps23
  go_wp2_with fail
  refine (HA.out _ (HR.out.later (by (repeat' first | (with_reducible exact Below.refl _ _) | (with_reducible assumption) | (with_reducible refine belowThru ?_ (by assumption)) | (with_reducible refine belowAlloc ?_))))).mono ?_
  rintro e w1 ⟨rfl, hb⟩
  go_wp2
  exact bodyPost_ret (v := .tuple #[.slice none 0 0, .int .i64 E]) (by simp only [results, Try.results23]; go_simp) rfl ⟨rfl, by (repeat' (first | (with_reducible exact Below.refl _ _) | (with_reducible assumption) | (with_reducible refine belowThru ?_ (by assumption)) | (with_reducible refine belowAlloc ?_) | (with_reducible refine Below.setCell ?_ (by first | omega | (simp; done) | (simp; omega)) _) | (with_reducible refine Below.drew ?_) | (with_reducible refine below_drewN ?_ _)))⟩
set_option maxHeartbeats 2000000 in
theorem rlw_ok (a : Option Addr) (n c : Nat) (zs : List Int) (y : Int) (hz : okP zs) (hN : okN y) (w : World) (hR : Row w a n (iv zs)) :
    Calls Try.prog 25 #[.slice a n c, .int .i64 y] w fun e w' => ∃ (b : Option Addr) (d : Nat), e = .returned (.tuple #[.slice b n d, .int .i64 0]) ∧ Row w' b n (iv (lwL y zs)) ∧ Below w.heap.size w w' := by
  have hl : zs.length = n := by have := hR.1; rwa [iv_length] at this
  have hn : n ≤ 64 := by have := hz.1.2; omega
  have hi : inL zs 0 := ⟨by omega, by have := hz.1.1; omega⟩
  have HA := Lib.hid (fun w hR => asked_any a n c zs 1 0 y (by unfold maxLen; omega) w hR)
  rw [asQ_ok hz ⟨⟨by decide, by decide⟩, hi, hN⟩] at HA
  have HM := Lib.hid (fun w hR => rmoved a n c zs (-y) hn hz.2 (by have := hN.1; have := hN.2; omega) w hR)
  unfold RetM at HM
  rw [upL_map hl, lwL_eq hz.2 hN.1] at HM
  have wy : IntKind.i64.wrap (-y) = -y := IntWalk.i64_in _ (by have := hN.1; have := hN.2; omega)
  have HR := Lib.hid hR
  clear hR hz hN hi hl hn
  go_enter Try.func25, Try.ntmps25
  go_wp2_with fail
  refine (HA.out _ (HR.out.later (by (repeat' first | (with_reducible exact Below.refl _ _) | (with_reducible assumption) | (with_reducible refine belowThru ?_ (by assumption)) | (with_reducible refine belowAlloc ?_))))).mono ?_
  rintro e w1 ⟨rfl, hb⟩
  go_wp2_with fail
  refine (HM.out _ (HR.out.later (by (repeat' first | (with_reducible exact Below.refl _ _) | (with_reducible assumption) | (with_reducible refine belowThru ?_ (by assumption)) | (with_reducible refine belowAlloc ?_))))).mono ?_
  rintro e w2 ⟨b, d, rfl, hq, hb2⟩
  have HQ := Lib.hid hq
  clear hq
  go_wp2
  exact bodyPost_ret (v := .tuple #[.slice b n d, .int .i64 0]) (by simp only [results, Try.results25]; go_simp) rfl ⟨b, d, rfl, HQ.out, by (repeat' (first | (with_reducible exact Below.refl _ _) | (with_reducible assumption) | (with_reducible refine belowThru ?_ (by assumption)) | (with_reducible refine belowAlloc ?_) | (with_reducible refine Below.setCell ?_ (by first | omega | (simp; done) | (simp; omega)) _) | (with_reducible refine Below.drew ?_) | (with_reducible refine below_drewN ?_ _)))⟩
set_option maxHeartbeats 2000000 in
theorem rlw_no (a : Option Addr) (n c : Nat) (zs : List Int) (y : Int) (hn : n ≤ maxLen) (h : ¬ (okP zs ∧ okN y)) (w : World) (hR : Row w a n (iv zs)) :
    Calls Try.prog 25 #[.slice a n c, .int .i64 y] w fun e w' => e = .returned (.tuple #[.slice none 0 0, .int .i64 (if okP zs then 2 else 50)]) ∧ Below w.heap.size w w' := by
  obtain ⟨E, hE, hE0⟩ : ∃ E : Int, (if okP zs then (2 : Int) else 50) = E ∧ (E != 0) = true := by
    by_cases hz : okP zs
    · exact ⟨2, if_pos hz, rfl⟩
    · exact ⟨50, if_neg hz, rfl⟩
  have HA := Lib.hid (fun w hR => asked_any a n c zs 1 0 y hn w hR)
  rw [show asQ zs 1 0 y = E by
    by_cases hz : okP zs
    · rw [asQ_arg hz (fun g => h ⟨hz, g.2.2⟩), ← hE, if_pos hz]
    · rw [asQ_no hz, ← hE, if_neg hz]] at HA
  rw [hE]
  have HR := Lib.hid hR
  clear hR h hE
  go_enter Try.func25, Try.ntmps25
  go_wp2_with fail
  refine (HA.out _ (HR.out.later (by (repeat' first | (with_reducible exact Below.refl _ _) | (with_reducible assumption) | (with_reducible refine belowThru ?_ (by assumption)) | (with_reducible refine belowAlloc ?_))))).mono ?_
  rintro e w1 ⟨rfl, hb⟩
  go_wp2
  exact bodyPost_ret (v := .tuple #[.slice none 0 0, .int .i64 E]) (by simp only [results, Try.results25]; go_simp) rfl ⟨rfl, by (repeat' (first | (with_reducible exact Below.refl _ _) | (with_reducible assumption) | (with_reducible refine belowThru ?_ (by assumption)) | (with_reducible refine belowAlloc ?_) | (with_reducible refine Below.setCell ?_ (by first | omega | (simp; done) | (simp; omega)) _) | (with_reducible refine Below.drew ?_) | (with_reducible refine below_drewN ?_ _)))⟩
end Go.Proofs.Ytdimmnoflenfhaa
