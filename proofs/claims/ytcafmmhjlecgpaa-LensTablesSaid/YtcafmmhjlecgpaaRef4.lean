/-
  The document's own answers, layer 1: signs, lowest terms.
-/
import Derived.Test.YtcafmmhjlecgpaaRef3
import Derived.Test.YtcafmmhjlecgpaaQMath
import Derived.IntWalk
namespace Go.Proofs.Ytcafmmhjlecgpaa
open Go.RowKit

set_option maxHeartbeats 400000 in
theorem rsign_any (n : Int) (w : World) :
    Calls Try.prog 114 #[.int .i64 n] w fun e w' => e = .returned (.int .i64 n.sign) ∧ w = w' := by
  rcases Int.lt_trichotomy n 0 with h | rfl | h
  · rw [Int.sign_eq_neg_one_of_neg h]
    go_enter Try.func114, Try.ntmps114
    go_wp2
    go_ret
    exact ⟨rfl, rfl⟩
  · go_enter Try.func114, Try.ntmps114
    go_wp2
    go_ret
    exact ⟨rfl, rfl⟩
  · rw [Int.sign_eq_one_of_pos h]
    have h' : ¬ n < 0 := by omega
    go_enter Try.func114, Try.ntmps114
    go_wp2
    go_ret
    exact ⟨rfl, rfl⟩

set_option maxHeartbeats 400000 in
theorem rfit_yes (a b : Int) (w : World) :
    Calls Try.prog 127 #[.agg #[.int .i64 a, .int .i64 b], .bool true] w fun e w' => e = .returned (.tuple #[.agg #[.int .i64 a, .int .i64 b], .int .i64 0]) ∧ Below w.heap.size w w' := by
  go_enter Try.func127, Try.ntmps127
  go_wp2
  exact bodyPost_ret (v := .tuple #[.agg #[.int .i64 a, .int .i64 b], .int .i64 0]) (by simp only [results, Try.results127]; go_simp) rfl ⟨rfl, by (repeat' (first | (with_reducible exact Below.refl _ _) | (with_reducible assumption) | (with_reducible refine belowThru ?_ (by assumption)) | (with_reducible refine belowAlloc ?_) | (with_reducible refine Below.setCell ?_ (by first | omega | (simp; done) | (simp; omega)) _) | (with_reducible refine Below.drew ?_) | (with_reducible refine below_drewN ?_ _)))⟩
set_option maxHeartbeats 400000 in
theorem rfit_no (a b : Int) (w : World) :
    Calls Try.prog 127 #[.agg #[.int .i64 a, .int .i64 b], .bool false] w fun e w' => e = .returned (.tuple #[.agg #[.int .i64 0, .int .i64 0], .int .i64 4]) ∧ Below w.heap.size w w' := by
  go_enter Try.func127, Try.ntmps127
  go_wp2
  exact bodyPost_ret (v := .tuple #[.agg #[.int .i64 0, .int .i64 0], .int .i64 4]) (by simp only [results, Try.results127]; go_simp) rfl ⟨rfl, by (repeat' (first | (with_reducible exact Below.refl _ _) | (with_reducible assumption) | (with_reducible refine belowThru ?_ (by assumption)) | (with_reducible refine belowAlloc ?_) | (with_reducible refine Below.setCell ?_ (by first | omega | (simp; done) | (simp; omega)) _) | (with_reducible refine Below.drew ?_) | (with_reducible refine below_drewN ?_ _)))⟩
theorem rfit_q (x : Rat) (w : World) :
    Calls Try.prog 127 #[.agg #[.int .i64 (rn x), .int .i64 (rd x)], .bool (decide (re x = 0))] w fun e w' => e = .returned (.tuple #[.agg #[.int .i64 (rn x), .int .i64 (rd x)], .int .i64 (re x)]) ∧ Below w.heap.size w w' := by
  unfold rn rd re
  by_cases h : fits x
  · simp only [if_pos h]; exact rfit_yes _ _ w
  · simp only [if_neg h]; exact rfit_no _ _ w

set_option maxRecDepth 100000 in
set_option maxHeartbeats 2000000 in
theorem lowest_walk (s u1 u0 v1 v0 g1 g0 nh nl dh dl t1 t2 t3 t4 A B : Int) (ok : Bool) (w : World)
    (HC : Hid (∀ w, Calls Try.prog 112 #[.agg #[.int .u64 u1, .int .u64 u0], .agg #[.int .u64 v1, .int .u64 v0]] w fun e w' => e = .returned (.agg #[.int .u64 g1, .int .u64 g0]) ∧ Below w.heap.size w w'))
    (HN : Hid (∀ w, Calls Try.prog 126 #[.agg #[.int .u64 u1, .int .u64 u0], .agg #[.int .u64 g1, .int .u64 g0]] w fun e w' => e = .returned (.tuple #[.agg #[.int .u64 nh, .int .u64 nl], .agg #[.int .u64 t1, .int .u64 t2]]) ∧ Below w.heap.size w w'))
    (HD : Hid (∀ w, Calls Try.prog 126 #[.agg #[.int .u64 v1, .int .u64 v0], .agg #[.int .u64 g1, .int .u64 g0]] w fun e w' => e = .returned (.tuple #[.agg #[.int .u64 dh, .int .u64 dl], .agg #[.int .u64 t3, .int .u64 t4]]) ∧ Below w.heap.size w w'))
    (hv : ((nh != 0) = true ∧ A = 0 ∧ B = 0 ∧ ok = false) ∨ (nh = 0 ∧ (dh != 0) = true ∧ A = 0 ∧ B = 0 ∧ ok = false) ∨ (nh = 0 ∧ dh = 0 ∧ 4611686018427387903 < nl ∧ A = 0 ∧ B = 0 ∧ ok = false) ∨
      (nh = 0 ∧ dh = 0 ∧ ¬ 4611686018427387903 < nl ∧ 4611686018427387903 < dl ∧ A = 0 ∧ B = 0 ∧ ok = false) ∨
      (nh = 0 ∧ dh = 0 ∧ ¬ 4611686018427387903 < nl ∧ ¬ 4611686018427387903 < dl ∧ s < 0 ∧ IntKind.i64.wrap nl = nl ∧ IntKind.i64.wrap (-nl) = A ∧ IntKind.i64.wrap dl = B ∧ ok = true) ∨
      (nh = 0 ∧ dh = 0 ∧ ¬ 4611686018427387903 < nl ∧ ¬ 4611686018427387903 < dl ∧ ¬ s < 0 ∧ IntKind.i64.wrap nl = A ∧ IntKind.i64.wrap dl = B ∧ ok = true)) :
    Calls Try.prog 128 #[.int .i64 s, .agg #[.int .u64 u1, .int .u64 u0], .agg #[.int .u64 v1, .int .u64 v0]] w fun e w' => e = .returned (.tuple #[.agg #[.int .i64 A, .int .i64 B], .bool ok]) ∧ Below w.heap.size w w' := by
  rcases hv with ⟨h1, rfl, rfl, rfl⟩ | ⟨rfl, h1, rfl, rfl, rfl⟩ | ⟨rfl, rfl, h1, rfl, rfl, rfl⟩ | ⟨rfl, rfl, h1, h2, rfl, rfl, rfl⟩ | ⟨rfl, rfl, h1, h2, h3, h4, h5, h6, rfl⟩ | ⟨rfl, rfl, h1, h2, h3, h4, h5, rfl⟩
  all_goals
    go_enter Try.func128, Try.ntmps128
    go_upto_region 3 with (first
      | (go_at_call 112; (with_reducible refine (HC.out _).mono ?_); rintro e w1 ⟨rfl, hb⟩; (first | ((with_reducible have k0 := Blk.later hb (Blk.alloc (Blk.alloc (Blk.new rfl)))); (with_reducible have k1 := Blk.later hb (Blk.alloc (Blk.new rfl))); (with_reducible have k2 := Blk.later hb (Blk.new rfl)); simp only [World.size_alloc] at k1 k2; obtain ⟨a0, b0⟩ := k0.read; have zl := k0.lt; obtain ⟨a1, b1⟩ := k1.read; have zl := k1.lt; obtain ⟨a2, b2⟩ := k2.read; have zl := k2.lt) | ((try (have zk := k0.lt; (first | ((with_reducible refine Blk.keepG hb k0 (fun h => ?_) ?_); (focus ((repeat' (first | (with_reducible assumption) | ((with_reducible refine Blk.new ?_); first | rfl | (simp; done)) | (with_reducible refine Blk.later (by assumption) ?_) | (with_reducible refine Blk.alloc ?_) | (with_reducible refine Blk.drewN ?_) | (with_reducible refine Blk.drew ?_) | (with_reducible refine Blk.other ?_ (by first | omega | (simp; done) | (simp; omega))))); done)); clear k0; intro k0) | (with_reducible replace k0 := Blk.later hb (Blk.set (Blk.set k0))) | (with_reducible replace k0 := Blk.later hb (Blk.set k0))); clear a0 b0; obtain ⟨a0, b0⟩ := k0.read; have zl := k0.lt)); (try (have zk := k1.lt; (first | ((with_reducible refine Blk.keepG hb k1 (fun h => ?_) ?_); (focus ((repeat' (first | (with_reducible assumption) | ((with_reducible refine Blk.new ?_); first | rfl | (simp; done)) | (with_reducible refine Blk.later (by assumption) ?_) | (with_reducible refine Blk.alloc ?_) | (with_reducible refine Blk.drewN ?_) | (with_reducible refine Blk.drew ?_) | (with_reducible refine Blk.other ?_ (by first | omega | (simp; done) | (simp; omega))))); done)); clear k1; intro k1) | (with_reducible replace k1 := Blk.later hb (Blk.set (Blk.set k1))) | (with_reducible replace k1 := Blk.later hb (Blk.set k1))); clear a1 b1; obtain ⟨a1, b1⟩ := k1.read; have zl := k1.lt)); (try (have zk := k2.lt; (first | ((with_reducible refine Blk.keepG hb k2 (fun h => ?_) ?_); (focus ((repeat' (first | (with_reducible assumption) | ((with_reducible refine Blk.new ?_); first | rfl | (simp; done)) | (with_reducible refine Blk.later (by assumption) ?_) | (with_reducible refine Blk.alloc ?_) | (with_reducible refine Blk.drewN ?_) | (with_reducible refine Blk.drew ?_) | (with_reducible refine Blk.other ?_ (by first | omega | (simp; done) | (simp; omega))))); done)); clear k2; intro k2) | (with_reducible replace k2 := Blk.later hb (Blk.set (Blk.set k2))) | (with_reducible replace k2 := Blk.later hb (Blk.set k2))); clear a2 b2; obtain ⟨a2, b2⟩ := k2.read; have zl := k2.lt)); (try (have zk := k3.lt; (first | ((with_reducible refine Blk.keepG hb k3 (fun h => ?_) ?_); (focus ((repeat' (first | (with_reducible assumption) | ((with_reducible refine Blk.new ?_); first | rfl | (simp; done)) | (with_reducible refine Blk.later (by assumption) ?_) | (with_reducible refine Blk.alloc ?_) | (with_reducible refine Blk.drewN ?_) | (with_reducible refine Blk.drew ?_) | (with_reducible refine Blk.other ?_ (by first | omega | (simp; done) | (simp; omega))))); done)); clear k3; intro k3) | (with_reducible replace k3 := Blk.later hb (Blk.set (Blk.set k3))) | (with_reducible replace k3 := Blk.later hb (Blk.set k3))); clear a3 b3; obtain ⟨a3, b3⟩ := k3.read; have zl := k3.lt)); (try (have zk := k4.lt; (first | ((with_reducible refine Blk.keepG hb k4 (fun h => ?_) ?_); (focus ((repeat' (first | (with_reducible assumption) | ((with_reducible refine Blk.new ?_); first | rfl | (simp; done)) | (with_reducible refine Blk.later (by assumption) ?_) | (with_reducible refine Blk.alloc ?_) | (with_reducible refine Blk.drewN ?_) | (with_reducible refine Blk.drew ?_) | (with_reducible refine Blk.other ?_ (by first | omega | (simp; done) | (simp; omega))))); done)); clear k4; intro k4) | (with_reducible replace k4 := Blk.later hb (Blk.set (Blk.set k4))) | (with_reducible replace k4 := Blk.later hb (Blk.set k4))); clear a4 b4; obtain ⟨a4, b4⟩ := k4.read; have zl := k4.lt)); (try (have zk := k5.lt; (first | ((with_reducible refine Blk.keepG hb k5 (fun h => ?_) ?_); (focus ((repeat' (first | (with_reducible assumption) | ((with_reducible refine Blk.new ?_); first | rfl | (simp; done)) | (with_reducible refine Blk.later (by assumption) ?_) | (with_reducible refine Blk.alloc ?_) | (with_reducible refine Blk.drewN ?_) | (with_reducible refine Blk.drew ?_) | (with_reducible refine Blk.other ?_ (by first | omega | (simp; done) | (simp; omega))))); done)); clear k5; intro k5) | (with_reducible replace k5 := Blk.later hb (Blk.set (Blk.set k5))) | (with_reducible replace k5 := Blk.later hb (Blk.set k5))); clear a5 b5; obtain ⟨a5, b5⟩ := k5.read; have zl := k5.lt)))))
      | (go_at_call 126; (with_reducible refine (HN.out _).mono ?_); rintro e w1 ⟨rfl, hb⟩; (try (have zk := k0.lt; (first | ((with_reducible refine Blk.keepG hb k0 (fun h => ?_) ?_); (focus ((repeat' (first | (with_reducible assumption) | ((with_reducible refine Blk.new ?_); first | rfl | (simp; done)) | (with_reducible refine Blk.later (by assumption) ?_) | (with_reducible refine Blk.alloc ?_) | (with_reducible refine Blk.drewN ?_) | (with_reducible refine Blk.drew ?_) | (with_reducible refine Blk.other ?_ (by first | omega | (simp; done) | (simp; omega))))); done)); clear k0; intro k0) | (with_reducible replace k0 := Blk.later hb (Blk.set (Blk.set k0))) | (with_reducible replace k0 := Blk.later hb (Blk.set k0))); clear a0 b0; obtain ⟨a0, b0⟩ := k0.read; have zl := k0.lt)); (try (have zk := k1.lt; (first | ((with_reducible refine Blk.keepG hb k1 (fun h => ?_) ?_); (focus ((repeat' (first | (with_reducible assumption) | ((with_reducible refine Blk.new ?_); first | rfl | (simp; done)) | (with_reducible refine Blk.later (by assumption) ?_) | (with_reducible refine Blk.alloc ?_) | (with_reducible refine Blk.drewN ?_) | (with_reducible refine Blk.drew ?_) | (with_reducible refine Blk.other ?_ (by first | omega | (simp; done) | (simp; omega))))); done)); clear k1; intro k1) | (with_reducible replace k1 := Blk.later hb (Blk.set (Blk.set k1))) | (with_reducible replace k1 := Blk.later hb (Blk.set k1))); clear a1 b1; obtain ⟨a1, b1⟩ := k1.read; have zl := k1.lt)); (try (have zk := k2.lt; (first | ((with_reducible refine Blk.keepG hb k2 (fun h => ?_) ?_); (focus ((repeat' (first | (with_reducible assumption) | ((with_reducible refine Blk.new ?_); first | rfl | (simp; done)) | (with_reducible refine Blk.later (by assumption) ?_) | (with_reducible refine Blk.alloc ?_) | (with_reducible refine Blk.drewN ?_) | (with_reducible refine Blk.drew ?_) | (with_reducible refine Blk.other ?_ (by first | omega | (simp; done) | (simp; omega))))); done)); clear k2; intro k2) | (with_reducible replace k2 := Blk.later hb (Blk.set (Blk.set k2))) | (with_reducible replace k2 := Blk.later hb (Blk.set k2))); clear a2 b2; obtain ⟨a2, b2⟩ := k2.read; have zl := k2.lt)); (try (have zk := k3.lt; (first | ((with_reducible refine Blk.keepG hb k3 (fun h => ?_) ?_); (focus ((repeat' (first | (with_reducible assumption) | ((with_reducible refine Blk.new ?_); first | rfl | (simp; done)) | (with_reducible refine Blk.later (by assumption) ?_) | (with_reducible refine Blk.alloc ?_) | (with_reducible refine Blk.drewN ?_) | (with_reducible refine Blk.drew ?_) | (with_reducible refine Blk.other ?_ (by first | omega | (simp; done) | (simp; omega))))); done)); clear k3; intro k3) | (with_reducible replace k3 := Blk.later hb (Blk.set (Blk.set k3))) | (with_reducible replace k3 := Blk.later hb (Blk.set k3))); clear a3 b3; obtain ⟨a3, b3⟩ := k3.read; have zl := k3.lt)); (try (have zk := k4.lt; (first | ((with_reducible refine Blk.keepG hb k4 (fun h => ?_) ?_); (focus ((repeat' (first | (with_reducible assumption) | ((with_reducible refine Blk.new ?_); first | rfl | (simp; done)) | (with_reducible refine Blk.later (by assumption) ?_) | (with_reducible refine Blk.alloc ?_) | (with_reducible refine Blk.drewN ?_) | (with_reducible refine Blk.drew ?_) | (with_reducible refine Blk.other ?_ (by first | omega | (simp; done) | (simp; omega))))); done)); clear k4; intro k4) | (with_reducible replace k4 := Blk.later hb (Blk.set (Blk.set k4))) | (with_reducible replace k4 := Blk.later hb (Blk.set k4))); clear a4 b4; obtain ⟨a4, b4⟩ := k4.read; have zl := k4.lt)); (try (have zk := k5.lt; (first | ((with_reducible refine Blk.keepG hb k5 (fun h => ?_) ?_); (focus ((repeat' (first | (with_reducible assumption) | ((with_reducible refine Blk.new ?_); first | rfl | (simp; done)) | (with_reducible refine Blk.later (by assumption) ?_) | (with_reducible refine Blk.alloc ?_) | (with_reducible refine Blk.drewN ?_) | (with_reducible refine Blk.drew ?_) | (with_reducible refine Blk.other ?_ (by first | omega | (simp; done) | (simp; omega))))); done)); clear k5; intro k5) | (with_reducible replace k5 := Blk.later hb (Blk.set (Blk.set k5))) | (with_reducible replace k5 := Blk.later hb (Blk.set k5))); clear a5 b5; obtain ⟨a5, b5⟩ := k5.read; have zl := k5.lt)); ((with_reducible have k3 := Blk.later hb (Blk.new rfl)); (try simp only [World.size_alloc, World.size_drew, World.heap_drewN] at k3); obtain ⟨a3, b3⟩ := k3.read; have zl := k3.lt)))
    clear HC HN
    go_upto_region 4 with (first
      | (go_at_call 126; (with_reducible refine (HD.out _).mono ?_); rintro e w1 ⟨rfl, hb⟩; (try (have zk := k0.lt; (first | ((with_reducible refine Blk.keepG hb k0 (fun h => ?_) ?_); (focus ((repeat' (first | (with_reducible assumption) | ((with_reducible refine Blk.new ?_); first | rfl | (simp; done)) | (with_reducible refine Blk.later (by assumption) ?_) | (with_reducible refine Blk.alloc ?_) | (with_reducible refine Blk.drewN ?_) | (with_reducible refine Blk.drew ?_) | (with_reducible refine Blk.other ?_ (by first | omega | (simp; done) | (simp; omega))))); done)); clear k0; intro k0) | (with_reducible replace k0 := Blk.later hb (Blk.set (Blk.set k0))) | (with_reducible replace k0 := Blk.later hb (Blk.set k0))); clear a0 b0; obtain ⟨a0, b0⟩ := k0.read; have zl := k0.lt)); (try (have zk := k1.lt; (first | ((with_reducible refine Blk.keepG hb k1 (fun h => ?_) ?_); (focus ((repeat' (first | (with_reducible assumption) | ((with_reducible refine Blk.new ?_); first | rfl | (simp; done)) | (with_reducible refine Blk.later (by assumption) ?_) | (with_reducible refine Blk.alloc ?_) | (with_reducible refine Blk.drewN ?_) | (with_reducible refine Blk.drew ?_) | (with_reducible refine Blk.other ?_ (by first | omega | (simp; done) | (simp; omega))))); done)); clear k1; intro k1) | (with_reducible replace k1 := Blk.later hb (Blk.set (Blk.set k1))) | (with_reducible replace k1 := Blk.later hb (Blk.set k1))); clear a1 b1; obtain ⟨a1, b1⟩ := k1.read; have zl := k1.lt)); (try (have zk := k2.lt; (first | ((with_reducible refine Blk.keepG hb k2 (fun h => ?_) ?_); (focus ((repeat' (first | (with_reducible assumption) | ((with_reducible refine Blk.new ?_); first | rfl | (simp; done)) | (with_reducible refine Blk.later (by assumption) ?_) | (with_reducible refine Blk.alloc ?_) | (with_reducible refine Blk.drewN ?_) | (with_reducible refine Blk.drew ?_) | (with_reducible refine Blk.other ?_ (by first | omega | (simp; done) | (simp; omega))))); done)); clear k2; intro k2) | (with_reducible replace k2 := Blk.later hb (Blk.set (Blk.set k2))) | (with_reducible replace k2 := Blk.later hb (Blk.set k2))); clear a2 b2; obtain ⟨a2, b2⟩ := k2.read; have zl := k2.lt)); (try (have zk := k3.lt; (first | ((with_reducible refine Blk.keepG hb k3 (fun h => ?_) ?_); (focus ((repeat' (first | (with_reducible assumption) | ((with_reducible refine Blk.new ?_); first | rfl | (simp; done)) | (with_reducible refine Blk.later (by assumption) ?_) | (with_reducible refine Blk.alloc ?_) | (with_reducible refine Blk.drewN ?_) | (with_reducible refine Blk.drew ?_) | (with_reducible refine Blk.other ?_ (by first | omega | (simp; done) | (simp; omega))))); done)); clear k3; intro k3) | (with_reducible replace k3 := Blk.later hb (Blk.set (Blk.set k3))) | (with_reducible replace k3 := Blk.later hb (Blk.set k3))); clear a3 b3; obtain ⟨a3, b3⟩ := k3.read; have zl := k3.lt)); (try (have zk := k4.lt; (first | ((with_reducible refine Blk.keepG hb k4 (fun h => ?_) ?_); (focus ((repeat' (first | (with_reducible assumption) | ((with_reducible refine Blk.new ?_); first | rfl | (simp; done)) | (with_reducible refine Blk.later (by assumption) ?_) | (with_reducible refine Blk.alloc ?_) | (with_reducible refine Blk.drewN ?_) | (with_reducible refine Blk.drew ?_) | (with_reducible refine Blk.other ?_ (by first | omega | (simp; done) | (simp; omega))))); done)); clear k4; intro k4) | (with_reducible replace k4 := Blk.later hb (Blk.set (Blk.set k4))) | (with_reducible replace k4 := Blk.later hb (Blk.set k4))); clear a4 b4; obtain ⟨a4, b4⟩ := k4.read; have zl := k4.lt)); (try (have zk := k5.lt; (first | ((with_reducible refine Blk.keepG hb k5 (fun h => ?_) ?_); (focus ((repeat' (first | (with_reducible assumption) | ((with_reducible refine Blk.new ?_); first | rfl | (simp; done)) | (with_reducible refine Blk.later (by assumption) ?_) | (with_reducible refine Blk.alloc ?_) | (with_reducible refine Blk.drewN ?_) | (with_reducible refine Blk.drew ?_) | (with_reducible refine Blk.other ?_ (by first | omega | (simp; done) | (simp; omega))))); done)); clear k5; intro k5) | (with_reducible replace k5 := Blk.later hb (Blk.set (Blk.set k5))) | (with_reducible replace k5 := Blk.later hb (Blk.set k5))); clear a5 b5; obtain ⟨a5, b5⟩ := k5.read; have zl := k5.lt)); ((with_reducible have k4 := Blk.later hb (Blk.alloc (Blk.new rfl))); (with_reducible have k5 := Blk.later hb (Blk.new rfl)); (try simp only [World.size_alloc] at k4); (try simp only [World.size_alloc] at k5); obtain ⟨a4, b4⟩ := k4.read; have zl := k4.lt; obtain ⟨a5, b5⟩ := k5.read; have zl := k5.lt)))
    clear HD
    go_wp2
    first
    | exact bodyPost_ret (v := .tuple #[.agg #[.int .i64 0, .int .i64 0], .bool false]) (by simp only [results, Try.results128]; go_simp) rfl ⟨rfl, by (repeat' (first | (with_reducible exact Below.refl _ _) | (with_reducible assumption) | (with_reducible refine belowThru ?_ (by assumption)) | (with_reducible refine belowAlloc ?_) | (with_reducible refine Below.setCell ?_ (by first | omega | (simp; done) | (simp; omega)) _) | (with_reducible refine Below.drew ?_) | (with_reducible refine below_drewN ?_ _)))⟩
    | exact bodyPost_ret (v := .tuple #[.agg #[.int .i64 A, .int .i64 B], .bool true]) (by simp only [results, Try.results128]; go_simp) rfl ⟨rfl, by (repeat' (first | (with_reducible exact Below.refl _ _) | (with_reducible assumption) | (with_reducible refine belowThru ?_ (by assumption)) | (with_reducible refine belowAlloc ?_) | (with_reducible refine Below.setCell ?_ (by first | omega | (simp; done) | (simp; omega)) _) | (with_reducible refine Below.drew ?_) | (with_reducible refine below_drewN ?_ _)))⟩

/-- A fraction in lowest terms: the parts of the rational number. -/
theorem low_parts (s num den : Int) (n0 : 0 ≤ num) (d0 : 1 ≤ den) (x : Rat) (hx : x = mkR (if s < 0 then -num else num) den) :
    fn x = (if s < 0 then -(num / gcdI num den) else num / gcdI num den) ∧ fd x = den / gcdI num den := by
  subst hx
  by_cases hs : s < 0
  · rw [if_pos hs, if_pos hs]
    obtain ⟨p1, p2⟩ := mkR_parts (-num) den (gcdI num den) (by omega) (by congr 1 <;> omega)
    refine ⟨?_, by rw [p2]; congr 1; omega⟩
    rw [p1, Int.sign_eq_one_of_pos (by omega), Int.natAbs_neg, show (num.natAbs : Int) = num by omega]
    rcases Int.lt_trichotomy num 0 with h | rfl | h
    · omega
    · simp
    · rw [Int.sign_eq_neg_one_of_neg (by omega)]; simp
  · rw [if_neg hs, if_neg hs]
    obtain ⟨p1, p2⟩ := mkR_parts num den (gcdI num den) (by omega) (by congr 1 <;> omega)
    refine ⟨?_, by rw [p2]; congr 1; omega⟩
    rw [p1, Int.sign_eq_one_of_pos (by omega), show (num.natAbs : Int) = num by omega]
    rcases Int.lt_trichotomy num 0 with h | rfl | h
    · omega
    · simp
    · rw [Int.sign_eq_one_of_pos h]; simp

theorem lowest_q (x : Rat) (s num den : Int) (n0 : 0 ≤ num) (n1 : num < 170141183460469231731687303715884105728) (d0 : 1 ≤ den) (d1 : den < 170141183460469231731687303715884105728)
    (hx : x = mkR (if s < 0 then -num else num) den) (w : World) :
    Calls Try.prog 128 #[.int .i64 s, .agg #[.int .u64 (whi num), .int .u64 (wlo num)], .agg #[.int .u64 (whi den), .int .u64 (wlo den)]] w fun e w' => e = .returned (.tuple #[.agg #[.int .i64 (rn x), .int .i64 (rd x)], .bool (decide (re x = 0))]) ∧ Below w.heap.size w w' := by
  obtain ⟨p1, p2⟩ := low_parts s num den n0 d0 x hx
  have g0 := gcdI_pos_right num den (by omega)
  have g1 := gcdI_le_right num den (by omega)
  have hN0 := Int.ediv_nonneg n0 (show 0 ≤ gcdI num den by omega)
  have hN1 := Int.ediv_le_self (gcdI num den) n0
  have hD0 := Int.ediv_nonneg (show 0 ≤ den by omega) (show 0 ≤ gcdI num den by omega)
  have hD1 := Int.ediv_le_self (gcdI num den) (show 0 ≤ den by omega)
  have e := fd_pos x
  refine lowest_walk s (whi num) (wlo num) (whi den) (wlo den) (whi (gcdI num den)) (wlo (gcdI num den)) (whi (num / gcdI num den)) (wlo (num / gcdI num den)) (whi (den / gcdI num den)) (wlo (den / gcdI num den)) _ _ _ _ _ _ _ w
    (Lib.hid (common_any num den n0 n1 (by omega) d1)) (Lib.hid (parted_any num _ n0 (by omega) (by omega) (by omega))) (Lib.hid (parted_any den _ (by omega) (by omega) (by omega) (by omega))) ?_
  generalize gcdI num den = g at *
  generalize num / g = N at *
  generalize den / g = D at *
  have yes : fits x → rn x = fn x ∧ rd x = fd x ∧ decide (re x = 0) = true := fun h => ⟨if_pos h, if_pos h, by unfold re; rw [if_pos h]; rfl⟩
  have no : ¬ fits x → rn x = 0 ∧ rd x = 0 ∧ decide (re x = 0) = false := fun h => ⟨if_neg h, if_neg h, by unfold re; rw [if_neg h]; rfl⟩
  have hf : fits x ↔ N ≤ 4611686018427387903 ∧ D ≤ 4611686018427387903 := by
    unfold fits
    rw [p1, p2]
    split <;> omega
  have w1 : N = 18446744073709551616 * whi N + wlo N := by unfold whi wlo B64; omega
  have w2 : D = 18446744073709551616 * whi D + wlo D := by unfold whi wlo B64; omega
  have w3 : 0 ≤ wlo N ∧ 0 ≤ wlo D ∧ 0 ≤ whi N ∧ 0 ≤ whi D := by unfold whi wlo B64; omega
  generalize whi N = nh at *
  generalize wlo N = nl at *
  generalize whi D = dh at *
  generalize wlo D = dl at *
  by_cases c1 : nh = 0
  · by_cases c2 : dh = 0
    · subst c1 c2
      by_cases c3 : 4611686018427387903 < nl
      · obtain ⟨y1, y2, y3⟩ := no (fun h => by have := hf.1 h; omega)
        exact .inr (.inr (.inl ⟨rfl, rfl, c3, y1, y2, y3⟩))
      · by_cases c4 : 4611686018427387903 < dl
        · obtain ⟨y1, y2, y3⟩ := no (fun h => by have := hf.1 h; omega)
          exact .inr (.inr (.inr (.inl ⟨rfl, rfl, c3, c4, y1, y2, y3⟩)))
        · obtain ⟨y1, y2, y3⟩ := yes (hf.2 (by omega))
          by_cases c5 : s < 0
          · refine .inr (.inr (.inr (.inr (.inl ⟨rfl, rfl, c3, c4, c5, IntWalk.i64_in nl (by omega), ?_, ?_, y3⟩))))
            · rw [y1, p1, if_pos c5, IntWalk.i64_in _ (by omega)]; omega
            · rw [y2, p2, IntWalk.i64_in dl (by omega)]; omega
          · refine .inr (.inr (.inr (.inr (.inr ⟨rfl, rfl, c3, c4, c5, ?_, ?_, y3⟩))))
            · rw [y1, p1, if_neg c5, IntWalk.i64_in nl (by omega)]; omega
            · rw [y2, p2, IntWalk.i64_in dl (by omega)]; omega
    · obtain ⟨y1, y2, y3⟩ := no (fun h => by have := hf.1 h; omega)
      exact .inr (.inl ⟨c1, by simpa using c2, y1, y2, y3⟩)
  · obtain ⟨y1, y2, y3⟩ := no (fun h => by have := hf.1 h; omega)
    exact .inl ⟨by simpa using c1, y1, y2, y3⟩
end Go.Proofs.Ytcafmmhjlecgpaa
