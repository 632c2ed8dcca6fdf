/-
  The texts that the laws of this seat share, merged: part 2.
-/
import Derived.BigQuiet
import Derived.Deep.CutBlock
import Derived.Deep.DeepCutAuto
import Derived.Deep.Draws
import Derived.Deep.LoopGhost
import Derived.Deep.QuietTactic
import Derived.Deep.RegionHeld3
import Derived.IntWalk
import Derived.Laws.AppendOwn
import Derived.Laws.Bits64b
import Derived.Lib.Hide
import Derived.Lib.ItoaNum
import Derived.LoopIn
import Derived.LoopNIn
import Derived.LoopTactic
import Derived.OneCell
import Derived.OwnWalkIn
import Derived.RangeFuncBound
import Derived.RangeFuncCalls
import Derived.RangeFuncLeaves
import Derived.RangeFuncNested
import Derived.Shelf.Abstract
import Derived.Shelf.AbstractIn
import Derived.Shelf.Bits.Mul64
import Derived.Shelf.RegionOpen
import Derived.Shelf.Small.Bits
import Derived.Shelf.Spec.BitsCarry
import Derived.Shelf.Strconv.Itoa0
import Derived.TacticsInMore
import Derived.Test.YtdimmnoflenfhaaProg
import Derived.WalkKit
import Derived.WalkLawsBesides
import Derived.WalkSmall
import Derived.WalkSpells
import Derived.Test.YtdimmnoflenfhaaM1
/-
  Layer 1: order, sums, differences, products and quotients of valid fractions.
-/
namespace Go.Proofs.Ytdimmnoflenfhaa
open Go.RowKit

theorem prod_bound (q r : Rat) (hq : fits q) (hr : fits r) : -21267647932558653957237540927630737409 ≤ fn q * fd r ∧ fn q * fd r ≤ 21267647932558653957237540927630737409 := by
  have fq := hq; have fr' := hr; unfold fits at fq fr'; obtain ⟨q1, q2, q3⟩ := fq; obtain ⟨r1, r2, r3⟩ := fr'; have q4 := fd_pos q; have r4 := fd_pos r
  have := mul_bound (fn q) (fd r) 4611686018427387903 4611686018427387903 ⟨q1, q2⟩ ⟨by omega, r3⟩ (by omega) (by omega)
  omega

set_option maxHeartbeats 1000000 in
theorem order_q (q r : Rat) (hq : fits q) (hr : fits r) (w : World) :
    Calls Try.prog 81 #[.agg #[.int .i64 (fn q), .int .i64 (fd q)], .agg #[.int .i64 (fn r), .int .i64 (fd r)]] w fun e w' => e = .returned (.int .i64 (ordQ q r)) ∧ Below w.heap.size w w' := by
  have b1 := prod_bound q r hq hr
  have b2 := prod_bound r q hr hq
  have fq := hq; have fr' := hr; unfold fits at fq fr'; obtain ⟨q1, q2, q3⟩ := fq; obtain ⟨r1, r2, r3⟩ := fr'; have q4 := fd_pos q; have r4 := fd_pos r
  have e : Hid ((fn q * fd r - fn r * fd q).sign = ordQ q r) := rfl
  have HS : Hid (∀ w, Calls Try.prog 106 #[.agg #[.int .u64 (whi (fn q * fd r - fn r * fd q)), .int .u64 (wlo (fn q * fd r - fn r * fd q))]] w fun e w' => e = .returned (.int .i64 (ordQ q r)) ∧ Below w.heap.size w w') := by
    intro w; have := sign_any (fn q * fd r - fn r * fd q) (by omega) (by omega) w; rw [e.out] at this; exact this
  go_enter Try.func81, Try.ntmps81
  go_wp2
  go_region_held3 (fun w' => (Blk w' w.heap.size #[.int .i64 (fn q), .int .i64 (fd q)] 23 ∧ (∀ i : Nat, w'.cell? ⟨w.heap.size, i, none⟩ = (#[.int .i64 (fn q), .int .i64 (fd q)] : Array Value)[i]?)) ∧ (Blk w' (w.heap.size + 1) #[.int .i64 (fn r), .int .i64 (fd r)] 23 ∧ (∀ i : Nat, w'.cell? ⟨w.heap.size + 1, i, none⟩ = (#[.int .i64 (fn r), .int .i64 (fd r)] : Array Value)[i]?)) ∧ Below w.heap.size w w')
    (((first | (apply hold2; (focus assumption); intro p0 p1 pB) | skip); refine ⟨Blk.full ?_, Blk.full ?_, ?_⟩; all_goals (first | ((repeat' (first | (with_reducible assumption) | ((with_reducible refine Blk.new ?_); first | rfl | (simp; done)) | (with_reducible refine Blk.later (by assumption) ?_) | (with_reducible refine Blk.alloc ?_) | (with_reducible refine Blk.drewN ?_) | (with_reducible refine Blk.drew ?_) | (with_reducible refine Blk.other ?_ (by first | omega | (simp; done) | (simp; omega))))); done) | ((repeat' (first | (with_reducible exact Below.refl _ _) | (with_reducible assumption) | (with_reducible refine belowThru ?_ (by assumption)) | (with_reducible refine belowAlloc ?_) | (with_reducible refine Below.setCell ?_ (by first | omega | (simp; done) | (simp; omega)) _) | (with_reducible refine Below.drew ?_) | (with_reducible refine below_drewN ?_ _))); done))))
    (first
      | (go_at_call 105; (with_reducible refine (product_any _ _ (by omega) (by omega) (by omega) (by omega) _).mono ?_); rintro e w1 ⟨rfl, hb⟩)
      | (go_at_call 102; (with_reducible refine (minus_any _ _ _).mono ?_); rintro e w1 ⟨rfl, hb⟩)
      | (go_at_call 106; (with_reducible refine (HS.out _).mono ?_); rintro e w1 ⟨rfl, hb⟩))
  obtain ⟨-, -, hB⟩ := ‹(Blk _ _ _ _ ∧ _) ∧ (Blk _ _ _ _ ∧ _) ∧ Below _ _ _›
  go_wp2
  go_ret
  exact ⟨rfl, hB⟩

set_option maxRecDepth 100000 in
set_option maxHeartbeats 4000000 in
theorem combine_walk (q r : Rat) (hq : fits q) (hr : fits r) (F : FuncId) (g l m t s k N M E : Int) (w : World)
    (HG : Hid (∀ w, Calls Try.prog 76 #[.int .u64 (fd q), .int .u64 (fd r)] w fun e w' => e = .returned (.int .u64 g) ∧ ∃ n, w' = w.drewN n)) (g1 : 1 ≤ g) (g2 : g ≤ 4611686018427387903)
    (el : fd q / g = l) (em : fd r / g = m) (l1 : 1 ≤ l) (l2 : l ≤ 4611686018427387903) (m1 : 1 ≤ m) (m2 : m ≤ 4611686018427387903)
    (ek : fd r / s = k) (kk1 : 1 ≤ k) (kk2 : k ≤ 4611686018427387903)
    (HR : Hid (∀ w, Calls Try.prog 79 #[.agg #[.int .u64 (whi (t.tdiv s)), .int .u64 (wlo (t.tdiv s))], .agg #[.int .u64 (whi (l * k)), .int .u64 (wlo (l * k))]] w fun e w' => e = .returned (.tuple #[.agg #[.int .i64 N, .int .i64 M], .int .i64 E]) ∧ Below w.heap.size w w'))
    (HE : ∀ args w, (callFunc F args).run Try.prog w = .ok (.enter F args) w)
    (t0 : -170141183460469231731687303715884105728 < t) (t1 : t < 170141183460469231731687303715884105728) (s1 : 1 ≤ s) (s2 : s ≤ 4611686018427387903)
    (HS : Hid (∀ w, Calls Try.prog 76 #[.int .u64 g, .int .u64 ((t.natAbs : Int) % g)] w fun e w' => e = .returned (.int .u64 s) ∧ Below w.heap.size w w'))
    (HF : Hid (∀ w, Calls Try.prog F #[.agg #[.int .u64 (whi (fn q * m)), .int .u64 (wlo (fn q * m))], .agg #[.int .u64 (whi (fn r * l)), .int .u64 (wlo (fn r * l))]] w fun e w' => e = .returned (.agg #[.int .u64 (whi t), .int .u64 (wlo t)]) ∧ Below w.heap.size w w')) :
    Calls Try.prog 113 #[.agg #[.int .i64 (fn q), .int .i64 (fd q)], .agg #[.int .i64 (fn r), .int .i64 (fd r)], .func (.func F) #[] #[]] w fun e w' => e = .returned (.tuple #[.agg #[.int .i64 N, .int .i64 M], .int .i64 E]) ∧ Below w.heap.size w w' := by
  have fq := hq; have fr' := hr; unfold fits at fq fr'; obtain ⟨q1, q2, q3⟩ := fq; obtain ⟨r1, r2, r3⟩ := fr'; have q4 := fd_pos q; have r4 := fd_pos r
  have HA : Hid (∀ w, Calls Try.prog 77 #[.int .i64 (fd q)] w fun e w' => e = .returned (.int .u64 (fd q)) ∧ w' = w) := by
    intro w; have := size_any (fd q) (by omega) (by omega) w; rw [mag_pos (fd q) (by omega)] at this; exact this.mono fun _ _ ⟨h, k⟩ => ⟨h, k.symm⟩
  have HB : Hid (∀ w, Calls Try.prog 77 #[.int .i64 (fd r)] w fun e w' => e = .returned (.int .u64 (fd r)) ∧ w' = w) := by
    intro w; have := size_any (fd r) (by omega) (by omega) w; rw [mag_pos (fd r) (by omega)] at this; exact this.mono fun _ _ ⟨h, k⟩ => ⟨h, k.symm⟩
  go_enter Try.func113, Try.ntmps113
  go_upto_region 1 with fail
  go_cut [8] (fun s8 wx => s8 = .int .u64 g ∧ Blk wx w.heap.size #[.int .i64 (fn q), .int .i64 (fd q)] 23 ∧ Blk wx (w.heap.size + 1) #[.int .i64 (fn r), .int .i64 (fd r)] 23 ∧ Blk wx (w.heap.size + 1 + 1) #[.int .i64 0, .int .i64 0] 23 ∧ Below w.heap.size w wx)
  case first =>
    go_quiet ((first
      | (go_at_call 77; (with_reducible refine Calls.quiet_of_same (HA.out _)))
      | (go_at_call 77; (with_reducible refine Calls.quiet_of_same (HB.out _)))
      | (go_at_call 76; (with_reducible refine Calls.quiet_of (HG.out _)))))
    go_wp2_with fail
    go_meet
    exact ⟨rfl, by (repeat' (first | (with_reducible assumption) | ((with_reducible refine Blk.new ?_); first | rfl | (simp; done)) | (with_reducible refine Blk.later (by assumption) ?_) | (with_reducible refine Blk.alloc ?_) | (with_reducible refine Blk.drewN ?_) | (with_reducible refine Blk.drew ?_) | (with_reducible refine Blk.other ?_ (by first | omega | (simp; done) | (simp; omega))))), by (repeat' (first | (with_reducible assumption) | ((with_reducible refine Blk.new ?_); first | rfl | (simp; done)) | (with_reducible refine Blk.later (by assumption) ?_) | (with_reducible refine Blk.alloc ?_) | (with_reducible refine Blk.drewN ?_) | (with_reducible refine Blk.drew ?_) | (with_reducible refine Blk.other ?_ (by first | omega | (simp; done) | (simp; omega))))), by (repeat' (first | (with_reducible assumption) | ((with_reducible refine Blk.new ?_); first | rfl | (simp; done)) | (with_reducible refine Blk.later (by assumption) ?_) | (with_reducible refine Blk.alloc ?_) | (with_reducible refine Blk.drewN ?_) | (with_reducible refine Blk.drew ?_) | (with_reducible refine Blk.other ?_ (by first | omega | (simp; done) | (simp; omega))))), by (repeat' (first | (with_reducible exact Below.refl _ _) | (with_reducible assumption) | (with_reducible refine belowThru ?_ (by assumption)) | (with_reducible refine belowAlloc ?_) | (with_reducible refine Below.setCell ?_ (by first | omega | (simp; done) | (simp; omega)) _) | (with_reducible refine Below.drew ?_) | (with_reducible refine below_drewN ?_ _)))⟩
  case rest =>
    obtain ⟨rfl, k0, k1, k2, hB⟩ := hcut
    obtain ⟨a0, b0⟩ := k0.read; obtain ⟨a1, b1⟩ := k1.read; obtain ⟨a2, b2⟩ := k2.read
    have z0 := k0.lt; have z1 := k1.lt; have z2 := k2.lt
    have y0 : ∀ n, w.heap.size < (wc.drewN n).heap.size := fun _ => z0
    have y1 : ∀ n, w.heap.size + 1 < (wc.drewN n).heap.size := fun _ => z1
    have y2 : ∀ n, w.heap.size + 1 + 1 < (wc.drewN n).heap.size := fun _ => z2
    go_upto_region 2 with fail
    go_quiet (fail)
    go_upto_region 3 with fail
    go_cut [9, 10, 11] (fun s9 s10 s11 wx => s9 = .int .i64 l ∧ s10 = .int .i64 m ∧ At wx (w.heap.size + 1 + 1 + 1) #[.int .u64 (whi t), .int .u64 (wlo t)] 109 s11 ∧ Blk wx w.heap.size #[.int .i64 (fn q), .int .i64 (fd q)] 23 ∧ Blk wx (w.heap.size + 1) #[.int .i64 (fn r), .int .i64 (fd r)] 23 ∧ Blk wx (w.heap.size + 1 + 1) #[.int .i64 0, .int .i64 0] 23 ∧ Below w.heap.size w wx)
    case first =>
      go_region_held3 (fun w' => (Blk w' w.heap.size #[.int .i64 (fn q), .int .i64 (fd q)] 23 ∧ (∀ i : Nat, w'.cell? ⟨w.heap.size, i, none⟩ = (#[.int .i64 (fn q), .int .i64 (fd q)] : Array Value)[i]?)) ∧ (Blk w' (w.heap.size + 1) #[.int .i64 (fn r), .int .i64 (fd r)] 23 ∧ (∀ i : Nat, w'.cell? ⟨w.heap.size + 1, i, none⟩ = (#[.int .i64 (fn r), .int .i64 (fd r)] : Array Value)[i]?)) ∧ Below w.heap.size w w')
        (((first | (apply hold2; (focus assumption); intro p0 p1 pB) | skip); refine ⟨Blk.full ?_, Blk.full ?_, ?_⟩; all_goals (first | ((repeat' (first | (with_reducible assumption) | ((with_reducible refine Blk.new ?_); first | rfl | (simp; done)) | (with_reducible refine Blk.later (by assumption) ?_) | (with_reducible refine Blk.alloc ?_) | (with_reducible refine Blk.drewN ?_) | (with_reducible refine Blk.drew ?_) | (with_reducible refine Blk.other ?_ (by first | omega | (simp; done) | (simp; omega))))); done) | ((repeat' (first | (with_reducible exact Below.refl _ _) | (with_reducible assumption) | (with_reducible refine belowThru ?_ (by assumption)) | (with_reducible refine belowAlloc ?_) | (with_reducible refine Below.setCell ?_ (by first | omega | (simp; done) | (simp; omega)) _) | (with_reducible refine Below.drew ?_) | (with_reducible refine below_drewN ?_ _))); done))))
        (first
        | (go_at_call 105; (with_reducible refine (product_any _ _ (by omega) (by omega) (by omega) (by omega) _).mono ?_); rintro e w1 ⟨rfl, hb⟩; (try (have zk := k0.lt; (first | ((with_reducible refine Blk.keepG hb k0 (fun h => ?_) ?_); (focus ((repeat' (first | (with_reducible assumption) | ((with_reducible refine Blk.new ?_); first | rfl | (simp; done)) | (with_reducible refine Blk.later (by assumption) ?_) | (with_reducible refine Blk.alloc ?_) | (with_reducible refine Blk.drewN ?_) | (with_reducible refine Blk.drew ?_) | (with_reducible refine Blk.other ?_ (by first | omega | (simp; done) | (simp; omega))))); done)); clear k0; intro k0) | (with_reducible replace k0 := Blk.later hb (Blk.set (Blk.set k0))) | (with_reducible replace k0 := Blk.later hb (Blk.set k0))); clear a0 b0; obtain ⟨a0, b0⟩ := k0.read; have zl := k0.lt)); (try (have zk := k1.lt; (first | ((with_reducible refine Blk.keepG hb k1 (fun h => ?_) ?_); (focus ((repeat' (first | (with_reducible assumption) | ((with_reducible refine Blk.new ?_); first | rfl | (simp; done)) | (with_reducible refine Blk.later (by assumption) ?_) | (with_reducible refine Blk.alloc ?_) | (with_reducible refine Blk.drewN ?_) | (with_reducible refine Blk.drew ?_) | (with_reducible refine Blk.other ?_ (by first | omega | (simp; done) | (simp; omega))))); done)); clear k1; intro k1) | (with_reducible replace k1 := Blk.later hb (Blk.set (Blk.set k1))) | (with_reducible replace k1 := Blk.later hb (Blk.set k1))); clear a1 b1; obtain ⟨a1, b1⟩ := k1.read; have zl := k1.lt)); (try (have zk := k2.lt; (first | ((with_reducible refine Blk.keepG hb k2 (fun h => ?_) ?_); (focus ((repeat' (first | (with_reducible assumption) | ((with_reducible refine Blk.new ?_); first | rfl | (simp; done)) | (with_reducible refine Blk.later (by assumption) ?_) | (with_reducible refine Blk.alloc ?_) | (with_reducible refine Blk.drewN ?_) | (with_reducible refine Blk.drew ?_) | (with_reducible refine Blk.other ?_ (by first | omega | (simp; done) | (simp; omega))))); done)); clear k2; intro k2) | (with_reducible replace k2 := Blk.later hb (Blk.set (Blk.set k2))) | (with_reducible replace k2 := Blk.later hb (Blk.set k2))); clear a2 b2; obtain ⟨a2, b2⟩ := k2.read; have zl := k2.lt)); (try (have zk := k3.lt; (first | ((with_reducible refine Blk.keepG hb k3 (fun h => ?_) ?_); (focus ((repeat' (first | (with_reducible assumption) | ((with_reducible refine Blk.new ?_); first | rfl | (simp; done)) | (with_reducible refine Blk.later (by assumption) ?_) | (with_reducible refine Blk.alloc ?_) | (with_reducible refine Blk.drewN ?_) | (with_reducible refine Blk.drew ?_) | (with_reducible refine Blk.other ?_ (by first | omega | (simp; done) | (simp; omega))))); done)); clear k3; intro k3) | (with_reducible replace k3 := Blk.later hb (Blk.set (Blk.set k3))) | (with_reducible replace k3 := Blk.later hb (Blk.set k3))); clear a3 b3; obtain ⟨a3, b3⟩ := k3.read; have zl := k3.lt)); (first | (have zk := kn.lt; (first | ((with_reducible refine Blk.keepG hb kn (fun h => ?_) ?_); (focus ((repeat' (first | (with_reducible assumption) | ((with_reducible refine Blk.new ?_); first | rfl | (simp; done)) | (with_reducible refine Blk.later (by assumption) ?_) | (with_reducible refine Blk.alloc ?_) | (with_reducible refine Blk.drewN ?_) | (with_reducible refine Blk.drew ?_) | (with_reducible refine Blk.other ?_ (by first | omega | (simp; done) | (simp; omega))))); done)); clear kn; intro kn) | (with_reducible replace kn := Blk.later hb (Blk.set (Blk.set kn))) | (with_reducible replace kn := Blk.later hb (Blk.set kn))); clear an bn; obtain ⟨an, bn⟩ := kn.read; have zl := kn.lt) | ((first | (with_reducible have kn := Blk.later hb (Blk.new rfl)) | (with_reducible have kn := Blk.later hb (Blk.drew (Blk.new rfl))) | (with_reducible have kn := Blk.later hb (Blk.drewN (Blk.new rfl)))); (try simp only [World.heap_drewN] at kn); obtain ⟨an, bn⟩ := kn.read; have zl := kn.lt) | skip))
        | ((with_reducible refine (HF.out _).mono ?_); rintro e w1 ⟨rfl, hb⟩; (try (have zk := k0.lt; (first | ((with_reducible refine Blk.keepG hb k0 (fun h => ?_) ?_); (focus ((repeat' (first | (with_reducible assumption) | ((with_reducible refine Blk.new ?_); first | rfl | (simp; done)) | (with_reducible refine Blk.later (by assumption) ?_) | (with_reducible refine Blk.alloc ?_) | (with_reducible refine Blk.drewN ?_) | (with_reducible refine Blk.drew ?_) | (with_reducible refine Blk.other ?_ (by first | omega | (simp; done) | (simp; omega))))); done)); clear k0; intro k0) | (with_reducible replace k0 := Blk.later hb (Blk.set (Blk.set k0))) | (with_reducible replace k0 := Blk.later hb (Blk.set k0))); clear a0 b0; obtain ⟨a0, b0⟩ := k0.read; have zl := k0.lt)); (try (have zk := k1.lt; (first | ((with_reducible refine Blk.keepG hb k1 (fun h => ?_) ?_); (focus ((repeat' (first | (with_reducible assumption) | ((with_reducible refine Blk.new ?_); first | rfl | (simp; done)) | (with_reducible refine Blk.later (by assumption) ?_) | (with_reducible refine Blk.alloc ?_) | (with_reducible refine Blk.drewN ?_) | (with_reducible refine Blk.drew ?_) | (with_reducible refine Blk.other ?_ (by first | omega | (simp; done) | (simp; omega))))); done)); clear k1; intro k1) | (with_reducible replace k1 := Blk.later hb (Blk.set (Blk.set k1))) | (with_reducible replace k1 := Blk.later hb (Blk.set k1))); clear a1 b1; obtain ⟨a1, b1⟩ := k1.read; have zl := k1.lt)); (try (have zk := k2.lt; (first | ((with_reducible refine Blk.keepG hb k2 (fun h => ?_) ?_); (focus ((repeat' (first | (with_reducible assumption) | ((with_reducible refine Blk.new ?_); first | rfl | (simp; done)) | (with_reducible refine Blk.later (by assumption) ?_) | (with_reducible refine Blk.alloc ?_) | (with_reducible refine Blk.drewN ?_) | (with_reducible refine Blk.drew ?_) | (with_reducible refine Blk.other ?_ (by first | omega | (simp; done) | (simp; omega))))); done)); clear k2; intro k2) | (with_reducible replace k2 := Blk.later hb (Blk.set (Blk.set k2))) | (with_reducible replace k2 := Blk.later hb (Blk.set k2))); clear a2 b2; obtain ⟨a2, b2⟩ := k2.read; have zl := k2.lt)); (try (have zk := k3.lt; (first | ((with_reducible refine Blk.keepG hb k3 (fun h => ?_) ?_); (focus ((repeat' (first | (with_reducible assumption) | ((with_reducible refine Blk.new ?_); first | rfl | (simp; done)) | (with_reducible refine Blk.later (by assumption) ?_) | (with_reducible refine Blk.alloc ?_) | (with_reducible refine Blk.drewN ?_) | (with_reducible refine Blk.drew ?_) | (with_reducible refine Blk.other ?_ (by first | omega | (simp; done) | (simp; omega))))); done)); clear k3; intro k3) | (with_reducible replace k3 := Blk.later hb (Blk.set (Blk.set k3))) | (with_reducible replace k3 := Blk.later hb (Blk.set k3))); clear a3 b3; obtain ⟨a3, b3⟩ := k3.read; have zl := k3.lt)); (first | (have zk := kn.lt; (first | ((with_reducible refine Blk.keepG hb kn (fun h => ?_) ?_); (focus ((repeat' (first | (with_reducible assumption) | ((with_reducible refine Blk.new ?_); first | rfl | (simp; done)) | (with_reducible refine Blk.later (by assumption) ?_) | (with_reducible refine Blk.alloc ?_) | (with_reducible refine Blk.drewN ?_) | (with_reducible refine Blk.drew ?_) | (with_reducible refine Blk.other ?_ (by first | omega | (simp; done) | (simp; omega))))); done)); clear kn; intro kn) | (with_reducible replace kn := Blk.later hb (Blk.set (Blk.set kn))) | (with_reducible replace kn := Blk.later hb (Blk.set kn))); clear an bn; obtain ⟨an, bn⟩ := kn.read; have zl := kn.lt) | ((first | (with_reducible have kn := Blk.later hb (Blk.new rfl)) | (with_reducible have kn := Blk.later hb (Blk.drew (Blk.new rfl))) | (with_reducible have kn := Blk.later hb (Blk.drewN (Blk.new rfl)))); (try simp only [World.size_alloc, World.size_drew, World.heap_drewN] at kn); obtain ⟨an, bn⟩ := kn.read; have zl := kn.lt) | skip)))
      all_goals
        have zz := k2.lt
        go_wp2_with fail
        go_meet
        refine ⟨rfl, rfl, At.mk (by omega) ?_, ?_, ?_, ?_, ?_⟩
        · first | exact Blk.set (Blk.set kn) | (repeat' (first | (with_reducible assumption) | ((with_reducible refine Blk.new ?_); first | rfl | (simp; done)) | (with_reducible refine Blk.later (by assumption) ?_) | (with_reducible refine Blk.alloc ?_) | (with_reducible refine Blk.drewN ?_) | (with_reducible refine Blk.drew ?_) | (with_reducible refine Blk.other ?_ (by first | omega | (simp; done) | (simp; omega)))))
        · (repeat' (first | (with_reducible assumption) | ((with_reducible refine Blk.new ?_); first | rfl | (simp; done)) | (with_reducible refine Blk.later (by assumption) ?_) | (with_reducible refine Blk.alloc ?_) | (with_reducible refine Blk.drewN ?_) | (with_reducible refine Blk.drew ?_) | (with_reducible refine Blk.other ?_ (by first | omega | (simp; done) | (simp; omega)))))
        · (repeat' (first | (with_reducible assumption) | ((with_reducible refine Blk.new ?_); first | rfl | (simp; done)) | (with_reducible refine Blk.later (by assumption) ?_) | (with_reducible refine Blk.alloc ?_) | (with_reducible refine Blk.drewN ?_) | (with_reducible refine Blk.drew ?_) | (with_reducible refine Blk.other ?_ (by first | omega | (simp; done) | (simp; omega)))))
        · (repeat' (first | (with_reducible assumption) | ((with_reducible refine Blk.new ?_); first | rfl | (simp; done)) | (with_reducible refine Blk.later (by assumption) ?_) | (with_reducible refine Blk.alloc ?_) | (with_reducible refine Blk.drewN ?_) | (with_reducible refine Blk.drew ?_) | (with_reducible refine Blk.other ?_ (by first | omega | (simp; done) | (simp; omega)))))
        · (repeat' (first | (with_reducible exact Below.refl _ _) | (with_reducible assumption) | (with_reducible refine belowThru ?_ (by assumption)) | (with_reducible refine belowAlloc ?_) | (with_reducible refine Below.setCell ?_ (by first | omega | (simp; done) | (simp; omega)) _) | (with_reducible refine Below.drew ?_) | (with_reducible refine below_drewN ?_ _)))
    case rest =>
      obtain ⟨rfl, rfl, ⟨bt, rfl, hbt, k3⟩, k0, k1, k2, hB⟩ := hcut
      obtain ⟨a0, b0⟩ := k0.read; obtain ⟨a1, b1⟩ := k1.read; obtain ⟨a2, b2⟩ := k2.read; obtain ⟨a3, b3⟩ := k3.read
      have z0 := k0.lt; have z1 := k1.lt; have z2 := k2.lt; have z3 := k3.lt
      go_upto_region 6 with (first
        | (go_at_call 130; (with_reducible refine (divide_any t g _ (by omega) (by omega) (by omega) (by omega)).mono ?_); rintro e w1 ⟨rfl, hb⟩; (try (have zk := k0.lt; (first | ((with_reducible refine Blk.keepG hb k0 (fun h => ?_) ?_); (focus ((repeat' (first | (with_reducible assumption) | ((with_reducible refine Blk.new ?_); first | rfl | (simp; done)) | (with_reducible refine Blk.later (by assumption) ?_) | (with_reducible refine Blk.alloc ?_) | (with_reducible refine Blk.drewN ?_) | (with_reducible refine Blk.drew ?_) | (with_reducible refine Blk.other ?_ (by first | omega | (simp; done) | (simp; omega))))); done)); clear k0; intro k0) | (with_reducible replace k0 := Blk.later hb (Blk.set (Blk.set k0))) | (with_reducible replace k0 := Blk.later hb (Blk.set k0))); clear a0 b0; obtain ⟨a0, b0⟩ := k0.read; have zl := k0.lt)); (try (have zk := k1.lt; (first | ((with_reducible refine Blk.keepG hb k1 (fun h => ?_) ?_); (focus ((repeat' (first | (with_reducible assumption) | ((with_reducible refine Blk.new ?_); first | rfl | (simp; done)) | (with_reducible refine Blk.later (by assumption) ?_) | (with_reducible refine Blk.alloc ?_) | (with_reducible refine Blk.drewN ?_) | (with_reducible refine Blk.drew ?_) | (with_reducible refine Blk.other ?_ (by first | omega | (simp; done) | (simp; omega))))); done)); clear k1; intro k1) | (with_reducible replace k1 := Blk.later hb (Blk.set (Blk.set k1))) | (with_reducible replace k1 := Blk.later hb (Blk.set k1))); clear a1 b1; obtain ⟨a1, b1⟩ := k1.read; have zl := k1.lt)); (try (have zk := k2.lt; (first | ((with_reducible refine Blk.keepG hb k2 (fun h => ?_) ?_); (focus ((repeat' (first | (with_reducible assumption) | ((with_reducible refine Blk.new ?_); first | rfl | (simp; done)) | (with_reducible refine Blk.later (by assumption) ?_) | (with_reducible refine Blk.alloc ?_) | (with_reducible refine Blk.drewN ?_) | (with_reducible refine Blk.drew ?_) | (with_reducible refine Blk.other ?_ (by first | omega | (simp; done) | (simp; omega))))); done)); clear k2; intro k2) | (with_reducible replace k2 := Blk.later hb (Blk.set (Blk.set k2))) | (with_reducible replace k2 := Blk.later hb (Blk.set k2))); clear a2 b2; obtain ⟨a2, b2⟩ := k2.read; have zl := k2.lt)); (try (have zk := k3.lt; (first | ((with_reducible refine Blk.keepG hb k3 (fun h => ?_) ?_); (focus ((repeat' (first | (with_reducible assumption) | ((with_reducible refine Blk.new ?_); first | rfl | (simp; done)) | (with_reducible refine Blk.later (by assumption) ?_) | (with_reducible refine Blk.alloc ?_) | (with_reducible refine Blk.drewN ?_) | (with_reducible refine Blk.drew ?_) | (with_reducible refine Blk.other ?_ (by first | omega | (simp; done) | (simp; omega))))); done)); clear k3; intro k3) | (with_reducible replace k3 := Blk.later hb (Blk.set (Blk.set k3))) | (with_reducible replace k3 := Blk.later hb (Blk.set k3))); clear a3 b3; obtain ⟨a3, b3⟩ := k3.read; have zl := k3.lt)); (first | (have zk := kn.lt; (first | ((with_reducible refine Blk.keepG hb kn (fun h => ?_) ?_); (focus ((repeat' (first | (with_reducible assumption) | ((with_reducible refine Blk.new ?_); first | rfl | (simp; done)) | (with_reducible refine Blk.later (by assumption) ?_) | (with_reducible refine Blk.alloc ?_) | (with_reducible refine Blk.drewN ?_) | (with_reducible refine Blk.drew ?_) | (with_reducible refine Blk.other ?_ (by first | omega | (simp; done) | (simp; omega))))); done)); clear kn; intro kn) | (with_reducible replace kn := Blk.later hb (Blk.set (Blk.set kn))) | (with_reducible replace kn := Blk.later hb (Blk.set kn))); clear an bn; obtain ⟨an, bn⟩ := kn.read; have zl := kn.lt) | ((first | (with_reducible have kn := Blk.later hb (Blk.new rfl)) | (with_reducible have kn := Blk.later hb (Blk.drew (Blk.new rfl))) | (with_reducible have kn := Blk.later hb (Blk.drewN (Blk.new rfl)))); (try simp only [World.size_alloc, World.size_drew, World.heap_drewN] at kn); obtain ⟨an, bn⟩ := kn.read; have zl := kn.lt) | skip))
        | (go_at_call 76; (with_reducible refine (HS.out _).mono ?_); rintro e w1 ⟨rfl, hb⟩; (try (have zk := k0.lt; (first | ((with_reducible refine Blk.keepG hb k0 (fun h => ?_) ?_); (focus ((repeat' (first | (with_reducible assumption) | ((with_reducible refine Blk.new ?_); first | rfl | (simp; done)) | (with_reducible refine Blk.later (by assumption) ?_) | (with_reducible refine Blk.alloc ?_) | (with_reducible refine Blk.drewN ?_) | (with_reducible refine Blk.drew ?_) | (with_reducible refine Blk.other ?_ (by first | omega | (simp; done) | (simp; omega))))); done)); clear k0; intro k0) | (with_reducible replace k0 := Blk.later hb (Blk.set (Blk.set k0))) | (with_reducible replace k0 := Blk.later hb (Blk.set k0))); clear a0 b0; obtain ⟨a0, b0⟩ := k0.read; have zl := k0.lt)); (try (have zk := k1.lt; (first | ((with_reducible refine Blk.keepG hb k1 (fun h => ?_) ?_); (focus ((repeat' (first | (with_reducible assumption) | ((with_reducible refine Blk.new ?_); first | rfl | (simp; done)) | (with_reducible refine Blk.later (by assumption) ?_) | (with_reducible refine Blk.alloc ?_) | (with_reducible refine Blk.drewN ?_) | (with_reducible refine Blk.drew ?_) | (with_reducible refine Blk.other ?_ (by first | omega | (simp; done) | (simp; omega))))); done)); clear k1; intro k1) | (with_reducible replace k1 := Blk.later hb (Blk.set (Blk.set k1))) | (with_reducible replace k1 := Blk.later hb (Blk.set k1))); clear a1 b1; obtain ⟨a1, b1⟩ := k1.read; have zl := k1.lt)); (try (have zk := k2.lt; (first | ((with_reducible refine Blk.keepG hb k2 (fun h => ?_) ?_); (focus ((repeat' (first | (with_reducible assumption) | ((with_reducible refine Blk.new ?_); first | rfl | (simp; done)) | (with_reducible refine Blk.later (by assumption) ?_) | (with_reducible refine Blk.alloc ?_) | (with_reducible refine Blk.drewN ?_) | (with_reducible refine Blk.drew ?_) | (with_reducible refine Blk.other ?_ (by first | omega | (simp; done) | (simp; omega))))); done)); clear k2; intro k2) | (with_reducible replace k2 := Blk.later hb (Blk.set (Blk.set k2))) | (with_reducible replace k2 := Blk.later hb (Blk.set k2))); clear a2 b2; obtain ⟨a2, b2⟩ := k2.read; have zl := k2.lt)); (try (have zk := k3.lt; (first | ((with_reducible refine Blk.keepG hb k3 (fun h => ?_) ?_); (focus ((repeat' (first | (with_reducible assumption) | ((with_reducible refine Blk.new ?_); first | rfl | (simp; done)) | (with_reducible refine Blk.later (by assumption) ?_) | (with_reducible refine Blk.alloc ?_) | (with_reducible refine Blk.drewN ?_) | (with_reducible refine Blk.drew ?_) | (with_reducible refine Blk.other ?_ (by first | omega | (simp; done) | (simp; omega))))); done)); clear k3; intro k3) | (with_reducible replace k3 := Blk.later hb (Blk.set (Blk.set k3))) | (with_reducible replace k3 := Blk.later hb (Blk.set k3))); clear a3 b3; obtain ⟨a3, b3⟩ := k3.read; have zl := k3.lt)); (first | (have zk := kn.lt; (first | ((with_reducible refine Blk.keepG hb kn (fun h => ?_) ?_); (focus ((repeat' (first | (with_reducible assumption) | ((with_reducible refine Blk.new ?_); first | rfl | (simp; done)) | (with_reducible refine Blk.later (by assumption) ?_) | (with_reducible refine Blk.alloc ?_) | (with_reducible refine Blk.drewN ?_) | (with_reducible refine Blk.drew ?_) | (with_reducible refine Blk.other ?_ (by first | omega | (simp; done) | (simp; omega))))); done)); clear kn; intro kn) | (with_reducible replace kn := Blk.later hb (Blk.set (Blk.set kn))) | (with_reducible replace kn := Blk.later hb (Blk.set kn))); clear an bn; obtain ⟨an, bn⟩ := kn.read; have zl := kn.lt) | ((first | (with_reducible have kn := Blk.later hb (Blk.new rfl)) | (with_reducible have kn := Blk.later hb (Blk.drew (Blk.new rfl))) | (with_reducible have kn := Blk.later hb (Blk.drewN (Blk.new rfl)))); (try simp only [World.size_alloc, World.size_drew, World.heap_drewN] at kn); obtain ⟨an, bn⟩ := kn.read; have zl := kn.lt) | skip)))
      go_cut [11] (fun s11 wx => s11 = .pointer (some ⟨bt, 0, none⟩) ∧ Blk wx bt #[.int .u64 (whi (t.tdiv s)), .int .u64 (wlo (t.tdiv s))] 109 ∧ Blk wx w.heap.size #[.int .i64 (fn q), .int .i64 (fd q)] 23 ∧ Blk wx (w.heap.size + 1) #[.int .i64 (fn r), .int .i64 (fd r)] 23 ∧ Blk wx (w.heap.size + 1 + 1) #[.int .i64 0, .int .i64 0] 23 ∧ Below w.heap.size w wx)
      case first =>
        go_wp2_with (go_at_call 130; (with_reducible refine (divide_any t s _ (by omega) (by omega) (by omega) (by omega)).mono ?_); rintro e w1 ⟨rfl, hb⟩; (try (have zk := k0.lt; (first | ((with_reducible refine Blk.keepG hb k0 (fun h => ?_) ?_); (focus ((repeat' (first | (with_reducible assumption) | ((with_reducible refine Blk.new ?_); first | rfl | (simp; done)) | (with_reducible refine Blk.later (by assumption) ?_) | (with_reducible refine Blk.alloc ?_) | (with_reducible refine Blk.drewN ?_) | (with_reducible refine Blk.drew ?_) | (with_reducible refine Blk.other ?_ (by first | omega | (simp; done) | (simp; omega))))); done)); clear k0; intro k0) | (with_reducible replace k0 := Blk.later hb (Blk.set (Blk.set k0))) | (with_reducible replace k0 := Blk.later hb (Blk.set k0))); clear a0 b0; obtain ⟨a0, b0⟩ := k0.read; have zl := k0.lt)); (try (have zk := k1.lt; (first | ((with_reducible refine Blk.keepG hb k1 (fun h => ?_) ?_); (focus ((repeat' (first | (with_reducible assumption) | ((with_reducible refine Blk.new ?_); first | rfl | (simp; done)) | (with_reducible refine Blk.later (by assumption) ?_) | (with_reducible refine Blk.alloc ?_) | (with_reducible refine Blk.drewN ?_) | (with_reducible refine Blk.drew ?_) | (with_reducible refine Blk.other ?_ (by first | omega | (simp; done) | (simp; omega))))); done)); clear k1; intro k1) | (with_reducible replace k1 := Blk.later hb (Blk.set (Blk.set k1))) | (with_reducible replace k1 := Blk.later hb (Blk.set k1))); clear a1 b1; obtain ⟨a1, b1⟩ := k1.read; have zl := k1.lt)); (try (have zk := k2.lt; (first | ((with_reducible refine Blk.keepG hb k2 (fun h => ?_) ?_); (focus ((repeat' (first | (with_reducible assumption) | ((with_reducible refine Blk.new ?_); first | rfl | (simp; done)) | (with_reducible refine Blk.later (by assumption) ?_) | (with_reducible refine Blk.alloc ?_) | (with_reducible refine Blk.drewN ?_) | (with_reducible refine Blk.drew ?_) | (with_reducible refine Blk.other ?_ (by first | omega | (simp; done) | (simp; omega))))); done)); clear k2; intro k2) | (with_reducible replace k2 := Blk.later hb (Blk.set (Blk.set k2))) | (with_reducible replace k2 := Blk.later hb (Blk.set k2))); clear a2 b2; obtain ⟨a2, b2⟩ := k2.read; have zl := k2.lt)); (try (have zk := k3.lt; (first | ((with_reducible refine Blk.keepG hb k3 (fun h => ?_) ?_); (focus ((repeat' (first | (with_reducible assumption) | ((with_reducible refine Blk.new ?_); first | rfl | (simp; done)) | (with_reducible refine Blk.later (by assumption) ?_) | (with_reducible refine Blk.alloc ?_) | (with_reducible refine Blk.drewN ?_) | (with_reducible refine Blk.drew ?_) | (with_reducible refine Blk.other ?_ (by first | omega | (simp; done) | (simp; omega))))); done)); clear k3; intro k3) | (with_reducible replace k3 := Blk.later hb (Blk.set (Blk.set k3))) | (with_reducible replace k3 := Blk.later hb (Blk.set k3))); clear a3 b3; obtain ⟨a3, b3⟩ := k3.read; have zl := k3.lt)); (first | (have zk := kn.lt; (first | ((with_reducible refine Blk.keepG hb kn (fun h => ?_) ?_); (focus ((repeat' (first | (with_reducible assumption) | ((with_reducible refine Blk.new ?_); first | rfl | (simp; done)) | (with_reducible refine Blk.later (by assumption) ?_) | (with_reducible refine Blk.alloc ?_) | (with_reducible refine Blk.drewN ?_) | (with_reducible refine Blk.drew ?_) | (with_reducible refine Blk.other ?_ (by first | omega | (simp; done) | (simp; omega))))); done)); clear kn; intro kn) | (with_reducible replace kn := Blk.later hb (Blk.set (Blk.set kn))) | (with_reducible replace kn := Blk.later hb (Blk.set kn))); clear an bn; obtain ⟨an, bn⟩ := kn.read; have zl := kn.lt) | ((first | (with_reducible have kn := Blk.later hb (Blk.new rfl)) | (with_reducible have kn := Blk.later hb (Blk.drew (Blk.new rfl))) | (with_reducible have kn := Blk.later hb (Blk.drewN (Blk.new rfl)))); (try simp only [World.size_alloc, World.size_drew, World.heap_drewN] at kn); obtain ⟨an, bn⟩ := kn.read; have zl := kn.lt) | skip))
        go_meet
        refine ⟨rfl, ?_, ?_, ?_, ?_, ?_⟩
        · exact Blk.set (Blk.set k3)
        · (repeat' (first | (with_reducible assumption) | ((with_reducible refine Blk.new ?_); first | rfl | (simp; done)) | (with_reducible refine Blk.later (by assumption) ?_) | (with_reducible refine Blk.alloc ?_) | (with_reducible refine Blk.drewN ?_) | (with_reducible refine Blk.drew ?_) | (with_reducible refine Blk.other ?_ (by first | omega | (simp; done) | (simp; omega)))))
        · (repeat' (first | (with_reducible assumption) | ((with_reducible refine Blk.new ?_); first | rfl | (simp; done)) | (with_reducible refine Blk.later (by assumption) ?_) | (with_reducible refine Blk.alloc ?_) | (with_reducible refine Blk.drewN ?_) | (with_reducible refine Blk.drew ?_) | (with_reducible refine Blk.other ?_ (by first | omega | (simp; done) | (simp; omega)))))
        · (repeat' (first | (with_reducible assumption) | ((with_reducible refine Blk.new ?_); first | rfl | (simp; done)) | (with_reducible refine Blk.later (by assumption) ?_) | (with_reducible refine Blk.alloc ?_) | (with_reducible refine Blk.drewN ?_) | (with_reducible refine Blk.drew ?_) | (with_reducible refine Blk.other ?_ (by first | omega | (simp; done) | (simp; omega)))))
        · (repeat' (first | (with_reducible exact Below.refl _ _) | (with_reducible assumption) | (with_reducible refine belowThru ?_ (by assumption)) | (with_reducible refine belowAlloc ?_) | (with_reducible refine Below.setCell ?_ (by first | omega | (simp; done) | (simp; omega)) _) | (with_reducible refine Below.drew ?_) | (with_reducible refine below_drewN ?_ _)))
      case rest =>
        obtain ⟨rfl, k3, k0, k1, k2, hB⟩ := hcut
        obtain ⟨a0, b0⟩ := k0.read; obtain ⟨a1, b1⟩ := k1.read; obtain ⟨a2, b2⟩ := k2.read; obtain ⟨a3, b3⟩ := k3.read
        have z0 := k0.lt; have z1 := k1.lt; have z2 := k2.lt; have z3 := k3.lt
        go_upto_region 7 with fail
        have v1 : IntKind.i64.wrap s = s := IntWalk.i64_in _ (by omega)
        have v2 : (s == 0) = false := by simp; omega
        have v4 : ¬ s = 0 := by omega
        have v3 : IntKind.i64.wrap ((fd r).tdiv s) = k := by rw [Int.tdiv_eq_ediv_of_nonneg (by omega), ek]; exact IntWalk.i64_in _ (by omega)
        go_region_held3 (fun w' => (Blk w' (w.heap.size + 1) #[.int .i64 (fn r), .int .i64 (fd r)] 23 ∧ (∀ i : Nat, w'.cell? ⟨w.heap.size + 1, i, none⟩ = (#[.int .i64 (fn r), .int .i64 (fd r)] : Array Value)[i]?)) ∧ (Blk w' bt #[.int .u64 (whi (t.tdiv s)), .int .u64 (wlo (t.tdiv s))] 109 ∧ (∀ i : Nat, w'.cell? ⟨bt, i, none⟩ = (#[.int .u64 (whi (t.tdiv s)), .int .u64 (wlo (t.tdiv s))] : Array Value)[i]?)) ∧ Below w.heap.size w w')
          (((first | (apply hold2; (focus assumption); intro p0 p1 pB) | skip); refine ⟨Blk.full ?_, Blk.full ?_, ?_⟩; all_goals (first | ((repeat' (first | (with_reducible assumption) | ((with_reducible refine Blk.new ?_); first | rfl | (simp; done)) | (with_reducible refine Blk.later (by assumption) ?_) | (with_reducible refine Blk.alloc ?_) | (with_reducible refine Blk.drewN ?_) | (with_reducible refine Blk.drew ?_) | (with_reducible refine Blk.other ?_ (by first | omega | (simp; done) | (simp; omega))))); done) | ((repeat' (first | (with_reducible exact Below.refl _ _) | (with_reducible assumption) | (with_reducible refine belowThru ?_ (by assumption)) | (with_reducible refine belowAlloc ?_) | (with_reducible refine Below.setCell ?_ (by first | omega | (simp; done) | (simp; omega)) _) | (with_reducible refine Below.drew ?_) | (with_reducible refine below_drewN ?_ _))); done))))
          (first
          | (go_at_call 105; (with_reducible refine (product_any _ _ (by omega) (by omega) (by omega) (by omega) _).mono ?_); rintro e w1 ⟨rfl, hb⟩; (try (have zk := k0.lt; (first | ((with_reducible refine Blk.keepG hb k0 (fun h => ?_) ?_); (focus ((repeat' (first | (with_reducible assumption) | ((with_reducible refine Blk.new ?_); first | rfl | (simp; done)) | (with_reducible refine Blk.later (by assumption) ?_) | (with_reducible refine Blk.alloc ?_) | (with_reducible refine Blk.drewN ?_) | (with_reducible refine Blk.drew ?_) | (with_reducible refine Blk.other ?_ (by first | omega | (simp; done) | (simp; omega))))); done)); clear k0; intro k0) | (with_reducible replace k0 := Blk.later hb (Blk.set (Blk.set k0))) | (with_reducible replace k0 := Blk.later hb (Blk.set k0))); clear a0 b0; obtain ⟨a0, b0⟩ := k0.read; have zl := k0.lt)); (try (have zk := k1.lt; (first | ((with_reducible refine Blk.keepG hb k1 (fun h => ?_) ?_); (focus ((repeat' (first | (with_reducible assumption) | ((with_reducible refine Blk.new ?_); first | rfl | (simp; done)) | (with_reducible refine Blk.later (by assumption) ?_) | (with_reducible refine Blk.alloc ?_) | (with_reducible refine Blk.drewN ?_) | (with_reducible refine Blk.drew ?_) | (with_reducible refine Blk.other ?_ (by first | omega | (simp; done) | (simp; omega))))); done)); clear k1; intro k1) | (with_reducible replace k1 := Blk.later hb (Blk.set (Blk.set k1))) | (with_reducible replace k1 := Blk.later hb (Blk.set k1))); clear a1 b1; obtain ⟨a1, b1⟩ := k1.read; have zl := k1.lt)); (try (have zk := k2.lt; (first | ((with_reducible refine Blk.keepG hb k2 (fun h => ?_) ?_); (focus ((repeat' (first | (with_reducible assumption) | ((with_reducible refine Blk.new ?_); first | rfl | (simp; done)) | (with_reducible refine Blk.later (by assumption) ?_) | (with_reducible refine Blk.alloc ?_) | (with_reducible refine Blk.drewN ?_) | (with_reducible refine Blk.drew ?_) | (with_reducible refine Blk.other ?_ (by first | omega | (simp; done) | (simp; omega))))); done)); clear k2; intro k2) | (with_reducible replace k2 := Blk.later hb (Blk.set (Blk.set k2))) | (with_reducible replace k2 := Blk.later hb (Blk.set k2))); clear a2 b2; obtain ⟨a2, b2⟩ := k2.read; have zl := k2.lt)); (try (have zk := k3.lt; (first | ((with_reducible refine Blk.keepG hb k3 (fun h => ?_) ?_); (focus ((repeat' (first | (with_reducible assumption) | ((with_reducible refine Blk.new ?_); first | rfl | (simp; done)) | (with_reducible refine Blk.later (by assumption) ?_) | (with_reducible refine Blk.alloc ?_) | (with_reducible refine Blk.drewN ?_) | (with_reducible refine Blk.drew ?_) | (with_reducible refine Blk.other ?_ (by first | omega | (simp; done) | (simp; omega))))); done)); clear k3; intro k3) | (with_reducible replace k3 := Blk.later hb (Blk.set (Blk.set k3))) | (with_reducible replace k3 := Blk.later hb (Blk.set k3))); clear a3 b3; obtain ⟨a3, b3⟩ := k3.read; have zl := k3.lt)); (first | (have zk := kn.lt; (first | ((with_reducible refine Blk.keepG hb kn (fun h => ?_) ?_); (focus ((repeat' (first | (with_reducible assumption) | ((with_reducible refine Blk.new ?_); first | rfl | (simp; done)) | (with_reducible refine Blk.later (by assumption) ?_) | (with_reducible refine Blk.alloc ?_) | (with_reducible refine Blk.drewN ?_) | (with_reducible refine Blk.drew ?_) | (with_reducible refine Blk.other ?_ (by first | omega | (simp; done) | (simp; omega))))); done)); clear kn; intro kn) | (with_reducible replace kn := Blk.later hb (Blk.set (Blk.set kn))) | (with_reducible replace kn := Blk.later hb (Blk.set kn))); clear an bn; obtain ⟨an, bn⟩ := kn.read; have zl := kn.lt) | ((first | (with_reducible have kn := Blk.later hb (Blk.new rfl)) | (with_reducible have kn := Blk.later hb (Blk.drew (Blk.new rfl))) | (with_reducible have kn := Blk.later hb (Blk.drewN (Blk.new rfl)))); (try simp only [World.size_alloc, World.size_drew, World.heap_drewN] at kn); obtain ⟨an, bn⟩ := kn.read; have zl := kn.lt) | skip))
          | (go_at_call 79; (with_reducible refine (HR.out _).mono ?_); rintro e w1 ⟨rfl, hb⟩; (try (have zk := k0.lt; (first | ((with_reducible refine Blk.keepG hb k0 (fun h => ?_) ?_); (focus ((repeat' (first | (with_reducible assumption) | ((with_reducible refine Blk.new ?_); first | rfl | (simp; done)) | (with_reducible refine Blk.later (by assumption) ?_) | (with_reducible refine Blk.alloc ?_) | (with_reducible refine Blk.drewN ?_) | (with_reducible refine Blk.drew ?_) | (with_reducible refine Blk.other ?_ (by first | omega | (simp; done) | (simp; omega))))); done)); clear k0; intro k0) | (with_reducible replace k0 := Blk.later hb (Blk.set (Blk.set k0))) | (with_reducible replace k0 := Blk.later hb (Blk.set k0))); clear a0 b0; obtain ⟨a0, b0⟩ := k0.read; have zl := k0.lt)); (try (have zk := k1.lt; (first | ((with_reducible refine Blk.keepG hb k1 (fun h => ?_) ?_); (focus ((repeat' (first | (with_reducible assumption) | ((with_reducible refine Blk.new ?_); first | rfl | (simp; done)) | (with_reducible refine Blk.later (by assumption) ?_) | (with_reducible refine Blk.alloc ?_) | (with_reducible refine Blk.drewN ?_) | (with_reducible refine Blk.drew ?_) | (with_reducible refine Blk.other ?_ (by first | omega | (simp; done) | (simp; omega))))); done)); clear k1; intro k1) | (with_reducible replace k1 := Blk.later hb (Blk.set (Blk.set k1))) | (with_reducible replace k1 := Blk.later hb (Blk.set k1))); clear a1 b1; obtain ⟨a1, b1⟩ := k1.read; have zl := k1.lt)); (try (have zk := k2.lt; (first | ((with_reducible refine Blk.keepG hb k2 (fun h => ?_) ?_); (focus ((repeat' (first | (with_reducible assumption) | ((with_reducible refine Blk.new ?_); first | rfl | (simp; done)) | (with_reducible refine Blk.later (by assumption) ?_) | (with_reducible refine Blk.alloc ?_) | (with_reducible refine Blk.drewN ?_) | (with_reducible refine Blk.drew ?_) | (with_reducible refine Blk.other ?_ (by first | omega | (simp; done) | (simp; omega))))); done)); clear k2; intro k2) | (with_reducible replace k2 := Blk.later hb (Blk.set (Blk.set k2))) | (with_reducible replace k2 := Blk.later hb (Blk.set k2))); clear a2 b2; obtain ⟨a2, b2⟩ := k2.read; have zl := k2.lt)); (try (have zk := k3.lt; (first | ((with_reducible refine Blk.keepG hb k3 (fun h => ?_) ?_); (focus ((repeat' (first | (with_reducible assumption) | ((with_reducible refine Blk.new ?_); first | rfl | (simp; done)) | (with_reducible refine Blk.later (by assumption) ?_) | (with_reducible refine Blk.alloc ?_) | (with_reducible refine Blk.drewN ?_) | (with_reducible refine Blk.drew ?_) | (with_reducible refine Blk.other ?_ (by first | omega | (simp; done) | (simp; omega))))); done)); clear k3; intro k3) | (with_reducible replace k3 := Blk.later hb (Blk.set (Blk.set k3))) | (with_reducible replace k3 := Blk.later hb (Blk.set k3))); clear a3 b3; obtain ⟨a3, b3⟩ := k3.read; have zl := k3.lt)); (first | (have zk := kn.lt; (first | ((with_reducible refine Blk.keepG hb kn (fun h => ?_) ?_); (focus ((repeat' (first | (with_reducible assumption) | ((with_reducible refine Blk.new ?_); first | rfl | (simp; done)) | (with_reducible refine Blk.later (by assumption) ?_) | (with_reducible refine Blk.alloc ?_) | (with_reducible refine Blk.drewN ?_) | (with_reducible refine Blk.drew ?_) | (with_reducible refine Blk.other ?_ (by first | omega | (simp; done) | (simp; omega))))); done)); clear kn; intro kn) | (with_reducible replace kn := Blk.later hb (Blk.set (Blk.set kn))) | (with_reducible replace kn := Blk.later hb (Blk.set kn))); clear an bn; obtain ⟨an, bn⟩ := kn.read; have zl := kn.lt) | ((first | (with_reducible have kn := Blk.later hb (Blk.new rfl)) | (with_reducible have kn := Blk.later hb (Blk.drew (Blk.new rfl))) | (with_reducible have kn := Blk.later hb (Blk.drewN (Blk.new rfl)))); (try simp only [World.size_alloc, World.size_drew, World.heap_drewN] at kn); obtain ⟨an, bn⟩ := kn.read; have zl := kn.lt) | skip)))
        all_goals
          go_wp2_with fail
          exact bodyPost_ret (v := .tuple #[.agg #[.int .i64 N, .int .i64 M], .int .i64 E]) (by simp only [results, Try.results113]; go_simp) rfl ⟨rfl, by (repeat' (first | (with_reducible exact Below.refl _ _) | (with_reducible assumption) | (with_reducible refine belowThru ?_ (by assumption)) | (with_reducible refine belowAlloc ?_) | (with_reducible refine Below.setCell ?_ (by first | omega | (simp; done) | (simp; omega)) _) | (with_reducible refine Below.drew ?_) | (with_reducible refine below_drewN ?_ _)))⟩
end Go.Proofs.Ytdimmnoflenfhaa
/-
  Layer 1: sums and differences of valid fractions as rational numbers; products.
-/
namespace Go.Proofs.Ytdimmnoflenfhaa
open Go.RowKit

theorem tdiv_bound (t s M : Int) (h : -M < t ∧ t < M) : -M < t.tdiv s ∧ t.tdiv s < M := by
  have h1 : (t.tdiv s).natAbs ≤ t.natAbs := by
    rw [Int.natAbs_tdiv]; exact Nat.div_le_self _ _
  omega

/-- The numbers on the way to a sum or a difference. -/
theorem way_bounds (q r : Rat) (hq : fits q) (hr : fits r) (g l m : Int) (hg : g = gcdI (fd q) (fd r)) (hl : l = fd q / g) (hm : m = fd r / g) :
    1 ≤ g ∧ g ≤ 4611686018427387903 ∧ 1 ≤ l ∧ l ≤ 4611686018427387903 ∧ 1 ≤ m ∧ m ≤ 4611686018427387903 ∧
    (-21267647932558653957237540927630737409 ≤ fn q * m ∧ fn q * m ≤ 21267647932558653957237540927630737409) ∧ (-21267647932558653957237540927630737409 ≤ fn r * l ∧ fn r * l ≤ 21267647932558653957237540927630737409) ∧
    ∀ t s : Int, s = gcdI g ((t.natAbs : Int) % g) → 1 ≤ s ∧ s ≤ 4611686018427387903 ∧ 1 ≤ fd r / s ∧ fd r / s ≤ 4611686018427387903 ∧ l * (fd r / s) ≤ 21267647932558653957237540927630737409 := by
  have fq := hq; have fr' := hr; unfold fits at fq fr'; obtain ⟨q1, q2, q3⟩ := fq; obtain ⟨r1, r2, r3⟩ := fr'; have q4 := fd_pos q; have r4 := fd_pos r
  have g1 : 0 < g := by rw [hg]; exact gcdI_pos_left _ _ (by omega)
  have g2 : g ≤ fd q := by rw [hg]; exact gcdI_le_left _ _ (by omega)
  have g3 : g ≤ fd r := by rw [hg]; exact gcdI_le_right _ _ (by omega)
  have bl := div_bounds (fd q) g (by omega) g1 g2
  have bm := div_bounds (fd r) g (by omega) g1 g3
  rw [← hl] at bl
  rw [← hm] at bm
  refine ⟨by omega, by omega, by omega, by omega, by omega, by omega, ?_, ?_, ?_⟩
  · have := mul_bound (fn q) m 4611686018427387903 4611686018427387903 ⟨q1, q2⟩ ⟨by omega, by omega⟩ (by omega) (by omega); omega
  · have := mul_bound (fn r) l 4611686018427387903 4611686018427387903 ⟨r1, r2⟩ ⟨by omega, by omega⟩ (by omega) (by omega); omega
  · intro t s hs
    have s1 : 0 < s := by rw [hs]; exact gcdI_pos_left _ _ g1
    have s2 : s ≤ g := by rw [hs]; exact gcdI_le_left _ _ g1
    have bk := div_bounds (fd r) s (by omega) s1 (by omega)
    have := mul_bound l (fd r / s) 4611686018427387903 4611686018427387903 ⟨by omega, by omega⟩ ⟨by omega, by omega⟩ (by omega) (by omega)
    exact ⟨by omega, by omega, by omega, by omega, by omega⟩

theorem plus_enters : ∀ args w, (callFunc 109 args).run Try.prog w = .ok (.enter 109 args) w := Go.Proofs.enters_of Try.func109 (by kernel_rfl) rfl
theorem minus_enters : ∀ args w, (callFunc 102 args).run Try.prog w = .ok (.enter 102 args) w := Go.Proofs.enters_of Try.func102 (by kernel_rfl) rfl

theorem combine_plus (q r : Rat) (hq : fits q) (hr : fits r) (w : World) :
    Calls Try.prog 113 #[.agg #[.int .i64 (fn q), .int .i64 (fd q)], .agg #[.int .i64 (fn r), .int .i64 (fd r)], .func (.func 109) #[] #[]] w fun e w' => e = .returned (.tuple #[.agg #[.int .i64 (rn (q + r)), .int .i64 (rd (q + r))], .int .i64 (re (q + r))]) ∧ Below w.heap.size w w' := by
  have fq := hq; have fr' := hr; unfold fits at fq fr'
  have q4 := fd_pos q; have r4 := fd_pos r
  obtain ⟨g, hg⟩ : ∃ g, g = gcdI (fd q) (fd r) := ⟨_, rfl⟩
  obtain ⟨l, hl⟩ : ∃ l, l = fd q / g := ⟨_, rfl⟩
  obtain ⟨m, hm⟩ : ∃ m, m = fd r / g := ⟨_, rfl⟩
  obtain ⟨t, ht⟩ : ∃ t, t = fn q * m + fn r * l := ⟨_, rfl⟩
  obtain ⟨s, hs⟩ : ∃ s, s = gcdI g ((t.natAbs : Int) % g) := ⟨_, rfl⟩
  obtain ⟨b1, b2, b3, b4, b5, b6, b7, b8, b9⟩ := way_bounds q r hq hr g l m hg hl hm
  obtain ⟨c1, c2, c3, c4, c5⟩ := b9 t s hs
  obtain ⟨p1, p2⟩ := add_parts q r g l t s hg hl (by rw [ht, hm]) hs
  have d1 := tdiv_bound t s 170141183460469231731687303715884105728 ⟨by omega, by omega⟩
  have m0 : 0 ≤ (t.natAbs : Int) % g := Int.emod_nonneg _ (by omega)
  have m1 : (t.natAbs : Int) % g < g := Int.emod_lt_of_pos _ (by omega)
  refine combine_walk q r hq hr 109 g l m t s (fd r / s) _ _ _ w ?_ b1 b2 hl.symm hm.symm b3 b4 b5 b6 rfl c3 c4 ?_ plus_enters (by omega) (by omega) c1 c2 ?_ ?_
  · intro w; rw [hg]; exact divisor_any _ _ (by omega) (by omega) (by omega) (by omega) w
  · intro w; exact fraction_q (q + r) _ _ p1 p2 w d1.1 d1.2 (by omega)
  · intro w
    refine (divisor_any g ((t.natAbs : Int) % g) (by omega) (by omega) (by omega) (by omega) w).mono fun e w' ⟨he, n, hw⟩ => ⟨by rw [he, hs], by rw [hw]; exact below_drewN (Below.refl _ _) n⟩
  · intro w; rw [ht]; exact plus_any _ _ w

theorem combine_minus (q r : Rat) (hq : fits q) (hr : fits r) (w : World) :
    Calls Try.prog 113 #[.agg #[.int .i64 (fn q), .int .i64 (fd q)], .agg #[.int .i64 (fn r), .int .i64 (fd r)], .func (.func 102) #[] #[]] w fun e w' => e = .returned (.tuple #[.agg #[.int .i64 (rn (q - r)), .int .i64 (rd (q - r))], .int .i64 (re (q - r))]) ∧ Below w.heap.size w w' := by
  have fq := hq; have fr' := hr; unfold fits at fq fr'
  have q4 := fd_pos q; have r4 := fd_pos r
  obtain ⟨g, hg⟩ : ∃ g, g = gcdI (fd q) (fd r) := ⟨_, rfl⟩
  obtain ⟨l, hl⟩ : ∃ l, l = fd q / g := ⟨_, rfl⟩
  obtain ⟨m, hm⟩ : ∃ m, m = fd r / g := ⟨_, rfl⟩
  obtain ⟨t, ht⟩ : ∃ t, t = fn q * m - fn r * l := ⟨_, rfl⟩
  obtain ⟨s, hs⟩ : ∃ s, s = gcdI g ((t.natAbs : Int) % g) := ⟨_, rfl⟩
  obtain ⟨b1, b2, b3, b4, b5, b6, b7, b8, b9⟩ := way_bounds q r hq hr g l m hg hl hm
  obtain ⟨c1, c2, c3, c4, c5⟩ := b9 t s hs
  obtain ⟨p1, p2⟩ := sub_parts q r g l t s hg hl (by rw [ht, hm]) hs
  have d1 := tdiv_bound t s 170141183460469231731687303715884105728 ⟨by omega, by omega⟩
  have m0 : 0 ≤ (t.natAbs : Int) % g := Int.emod_nonneg _ (by omega)
  have m1 : (t.natAbs : Int) % g < g := Int.emod_lt_of_pos _ (by omega)
  refine combine_walk q r hq hr 102 g l m t s (fd r / s) _ _ _ w ?_ b1 b2 hl.symm hm.symm b3 b4 b5 b6 rfl c3 c4 ?_ minus_enters (by omega) (by omega) c1 c2 ?_ ?_
  · intro w; rw [hg]; exact divisor_any _ _ (by omega) (by omega) (by omega) (by omega) w
  · intro w; exact fraction_q (q - r) _ _ p1 p2 w d1.1 d1.2 (by omega)
  · intro w
    refine (divisor_any g ((t.natAbs : Int) % g) (by omega) (by omega) (by omega) (by omega) w).mono fun e w' ⟨he, n, hw⟩ => ⟨by rw [he, hs], by rw [hw]; exact below_drewN (Below.refl _ _) n⟩
  · intro w; rw [ht]; exact minus_any _ _ w
end Go.Proofs.Ytdimmnoflenfhaa
/-
  Layer 1: products of valid fractions; inverses.
-/
namespace Go.Proofs.Ytdimmnoflenfhaa
open Go.RowKit

set_option maxRecDepth 100000 in
set_option maxHeartbeats 4000000 in
theorem times_walk (q r : Rat) (hq : fits q) (hr : fits r) (g h a b c d N M E : Int) (w : World)
    (HG : Hid (∀ w, Calls Try.prog 76 #[.int .u64 (mag (fn q)), .int .u64 (fd r)] w fun e w' => e = .returned (.int .u64 g) ∧ ∃ n, w' = w.drewN n)) (g1 : 1 ≤ g) (g2 : g ≤ 4611686018427387903)
    (HH : Hid (∀ w, Calls Try.prog 76 #[.int .u64 (mag (fn r)), .int .u64 (fd q)] w fun e w' => e = .returned (.int .u64 h) ∧ ∃ n, w' = w.drewN n)) (h1 : 1 ≤ h) (h2 : h ≤ 4611686018427387903)
    (ea : IntKind.i64.wrap ((fn q).tdiv g) = a) (eb : IntKind.i64.wrap ((fn r).tdiv h) = b) (ec : IntKind.i64.wrap ((fd q).tdiv h) = c) (ed : IntKind.i64.wrap ((fd r).tdiv g) = d)
    (a1 : -4611686018427387903 ≤ a) (a2 : a ≤ 4611686018427387903) (b1 : -4611686018427387903 ≤ b) (b2 : b ≤ 4611686018427387903) (c1 : -4611686018427387903 ≤ c) (c2 : c ≤ 4611686018427387903) (d1 : -4611686018427387903 ≤ d) (d2 : d ≤ 4611686018427387903)
    (HR : Hid (∀ w, Calls Try.prog 79 #[.agg #[.int .u64 (whi (a * b)), .int .u64 (wlo (a * b))], .agg #[.int .u64 (whi (c * d)), .int .u64 (wlo (c * d))]] w fun e w' => e = .returned (.tuple #[.agg #[.int .i64 N, .int .i64 M], .int .i64 E]) ∧ Below w.heap.size w w')) :
    Calls Try.prog 111 #[.agg #[.int .i64 (fn q), .int .i64 (fd q)], .agg #[.int .i64 (fn r), .int .i64 (fd r)]] w fun e w' => e = .returned (.tuple #[.agg #[.int .i64 N, .int .i64 M], .int .i64 E]) ∧ Below w.heap.size w w' := by
  have fq := hq; have fr' := hr; unfold fits at fq fr'; obtain ⟨q1, q2, q3⟩ := fq; obtain ⟨r1, r2, r3⟩ := fr'; have q4 := fd_pos q; have r4 := fd_pos r
  have HA : Hid (∀ w, Calls Try.prog 77 #[.int .i64 (fd q)] w fun e w' => e = .returned (.int .u64 (fd q)) ∧ w' = w) := by
    intro w; have := size_any (fd q) (by omega) (by omega) w; rw [mag_pos (fd q) (by omega)] at this; exact this.mono fun _ _ ⟨h, k⟩ => ⟨h, k.symm⟩
  have HB : Hid (∀ w, Calls Try.prog 77 #[.int .i64 (fd r)] w fun e w' => e = .returned (.int .u64 (fd r)) ∧ w' = w) := by
    intro w; have := size_any (fd r) (by omega) (by omega) w; rw [mag_pos (fd r) (by omega)] at this; exact this.mono fun _ _ ⟨h, k⟩ => ⟨h, k.symm⟩
  have HC : Hid (∀ w, Calls Try.prog 77 #[.int .i64 (fn q)] w fun e w' => e = .returned (.int .u64 (mag (fn q))) ∧ w' = w) := by
    intro w; exact (size_any (fn q) (by omega) (by omega) w).mono fun _ _ ⟨h, k⟩ => ⟨h, k.symm⟩
  have HD : Hid (∀ w, Calls Try.prog 77 #[.int .i64 (fn r)] w fun e w' => e = .returned (.int .u64 (mag (fn r))) ∧ w' = w) := by
    intro w; exact (size_any (fn r) (by omega) (by omega) w).mono fun _ _ ⟨h, k⟩ => ⟨h, k.symm⟩
  have v1 : IntKind.i64.wrap g = g := IntWalk.i64_in _ (by omega)
  have v2 : IntKind.i64.wrap h = h := IntWalk.i64_in _ (by omega)
  have v3 : ¬ g = 0 := by omega
  have v4 : ¬ h = 0 := by omega
  go_enter Try.func111, Try.ntmps111
  go_upto_region 1 with fail
  go_cut [6] (fun s6 wx => s6 = .int .i64 g ∧ Blk wx w.heap.size #[.int .i64 (fn q), .int .i64 (fd q)] 23 ∧ Blk wx (w.heap.size + 1) #[.int .i64 (fn r), .int .i64 (fd r)] 23 ∧ Blk wx (w.heap.size + 1 + 1) #[.int .i64 0, .int .i64 0] 23 ∧ Below w.heap.size w wx)
  case first =>
    go_quiet ((first
      | (go_at_call 77; (with_reducible refine Calls.quiet_of_same (HC.out _)))
      | (go_at_call 77; (with_reducible refine Calls.quiet_of_same (HB.out _)))
      | (go_at_call 76; (with_reducible refine Calls.quiet_of (HG.out _)))))
    go_wp2_with fail
    go_meet
    exact ⟨rfl, by (repeat' (first | (with_reducible assumption) | ((with_reducible refine Blk.new ?_); first | rfl | (simp; done)) | (with_reducible refine Blk.later (by assumption) ?_) | (with_reducible refine Blk.alloc ?_) | (with_reducible refine Blk.drewN ?_) | (with_reducible refine Blk.drew ?_) | (with_reducible refine Blk.other ?_ (by first | omega | (simp; done) | (simp; omega))))), by (repeat' (first | (with_reducible assumption) | ((with_reducible refine Blk.new ?_); first | rfl | (simp; done)) | (with_reducible refine Blk.later (by assumption) ?_) | (with_reducible refine Blk.alloc ?_) | (with_reducible refine Blk.drewN ?_) | (with_reducible refine Blk.drew ?_) | (with_reducible refine Blk.other ?_ (by first | omega | (simp; done) | (simp; omega))))), by (repeat' (first | (with_reducible assumption) | ((with_reducible refine Blk.new ?_); first | rfl | (simp; done)) | (with_reducible refine Blk.later (by assumption) ?_) | (with_reducible refine Blk.alloc ?_) | (with_reducible refine Blk.drewN ?_) | (with_reducible refine Blk.drew ?_) | (with_reducible refine Blk.other ?_ (by first | omega | (simp; done) | (simp; omega))))), by (repeat' (first | (with_reducible exact Below.refl _ _) | (with_reducible assumption) | (with_reducible refine belowThru ?_ (by assumption)) | (with_reducible refine belowAlloc ?_) | (with_reducible refine Below.setCell ?_ (by first | omega | (simp; done) | (simp; omega)) _) | (with_reducible refine Below.drew ?_) | (with_reducible refine below_drewN ?_ _)))⟩
  case rest =>
    obtain ⟨rfl, k0, k1, k2, hB⟩ := hcut
    obtain ⟨a0, b0⟩ := k0.read; obtain ⟨a1, b1⟩ := k1.read; obtain ⟨a2, b2⟩ := k2.read
    go_upto_region 2 with fail
    go_cut [7] (fun s7 wx => s7 = .int .i64 h ∧ Blk wx w.heap.size #[.int .i64 (fn q), .int .i64 (fd q)] 23 ∧ Blk wx (w.heap.size + 1) #[.int .i64 (fn r), .int .i64 (fd r)] 23 ∧ Blk wx (w.heap.size + 1 + 1) #[.int .i64 0, .int .i64 0] 23 ∧ Below w.heap.size w wx)
    case first =>
      go_quiet ((first
        | (go_at_call 77; (with_reducible refine Calls.quiet_of_same (HD.out _)))
        | (go_at_call 77; (with_reducible refine Calls.quiet_of_same (HA.out _)))
        | (go_at_call 76; (with_reducible refine Calls.quiet_of (HH.out _)))))
      go_wp2_with fail
      go_meet
      exact ⟨rfl, by (repeat' (first | (with_reducible assumption) | ((with_reducible refine Blk.new ?_); first | rfl | (simp; done)) | (with_reducible refine Blk.later (by assumption) ?_) | (with_reducible refine Blk.alloc ?_) | (with_reducible refine Blk.drewN ?_) | (with_reducible refine Blk.drew ?_) | (with_reducible refine Blk.other ?_ (by first | omega | (simp; done) | (simp; omega))))), by (repeat' (first | (with_reducible assumption) | ((with_reducible refine Blk.new ?_); first | rfl | (simp; done)) | (with_reducible refine Blk.later (by assumption) ?_) | (with_reducible refine Blk.alloc ?_) | (with_reducible refine Blk.drewN ?_) | (with_reducible refine Blk.drew ?_) | (with_reducible refine Blk.other ?_ (by first | omega | (simp; done) | (simp; omega))))), by (repeat' (first | (with_reducible assumption) | ((with_reducible refine Blk.new ?_); first | rfl | (simp; done)) | (with_reducible refine Blk.later (by assumption) ?_) | (with_reducible refine Blk.alloc ?_) | (with_reducible refine Blk.drewN ?_) | (with_reducible refine Blk.drew ?_) | (with_reducible refine Blk.other ?_ (by first | omega | (simp; done) | (simp; omega))))), by (repeat' (first | (with_reducible exact Below.refl _ _) | (with_reducible assumption) | (with_reducible refine belowThru ?_ (by assumption)) | (with_reducible refine belowAlloc ?_) | (with_reducible refine Below.setCell ?_ (by first | omega | (simp; done) | (simp; omega)) _) | (with_reducible refine Below.drew ?_) | (with_reducible refine below_drewN ?_ _)))⟩
    case rest =>
      obtain ⟨rfl, k0, k1, k2, hB⟩ := hcut
      obtain ⟨a0, b0⟩ := k0.read; obtain ⟨a1, b1⟩ := k1.read; obtain ⟨a2, b2⟩ := k2.read
      have z0 := k0.lt; have z1 := k1.lt; have z2 := k2.lt
      go_upto_region 3 with fail
      go_region_held3 (fun w' => (Blk w' w.heap.size #[.int .i64 (fn q), .int .i64 (fd q)] 23 ∧ (∀ i : Nat, w'.cell? ⟨w.heap.size, i, none⟩ = (#[.int .i64 (fn q), .int .i64 (fd q)] : Array Value)[i]?)) ∧ (Blk w' (w.heap.size + 1) #[.int .i64 (fn r), .int .i64 (fd r)] 23 ∧ (∀ i : Nat, w'.cell? ⟨w.heap.size + 1, i, none⟩ = (#[.int .i64 (fn r), .int .i64 (fd r)] : Array Value)[i]?)) ∧ Below w.heap.size w w')
        (((first | (apply hold2; (focus assumption); intro p0 p1 pB) | skip); refine ⟨Blk.full ?_, Blk.full ?_, ?_⟩; all_goals (first | ((repeat' (first | (with_reducible assumption) | ((with_reducible refine Blk.new ?_); first | rfl | (simp; done)) | (with_reducible refine Blk.later (by assumption) ?_) | (with_reducible refine Blk.alloc ?_) | (with_reducible refine Blk.drewN ?_) | (with_reducible refine Blk.drew ?_) | (with_reducible refine Blk.other ?_ (by first | omega | (simp; done) | (simp; omega))))); done) | ((repeat' (first | (with_reducible exact Below.refl _ _) | (with_reducible assumption) | (with_reducible refine belowThru ?_ (by assumption)) | (with_reducible refine belowAlloc ?_) | (with_reducible refine Below.setCell ?_ (by first | omega | (simp; done) | (simp; omega)) _) | (with_reducible refine Below.drew ?_) | (with_reducible refine below_drewN ?_ _))); done))))
        (first
        | (go_at_call 105; (with_reducible refine (product_any a b (by omega) (by omega) (by omega) (by omega) _).mono ?_); rintro e w1 ⟨rfl, hb⟩; (try (have zk := k0.lt; (first | ((with_reducible refine Blk.keepG hb k0 (fun h => ?_) ?_); (focus ((repeat' (first | (with_reducible assumption) | ((with_reducible refine Blk.new ?_); first | rfl | (simp; done)) | (with_reducible refine Blk.later (by assumption) ?_) | (with_reducible refine Blk.alloc ?_) | (with_reducible refine Blk.drewN ?_) | (with_reducible refine Blk.drew ?_) | (with_reducible refine Blk.other ?_ (by first | omega | (simp; done) | (simp; omega))))); done)); clear k0; intro k0) | (with_reducible replace k0 := Blk.later hb (Blk.set (Blk.set k0))) | (with_reducible replace k0 := Blk.later hb (Blk.set k0))); clear a0 b0; obtain ⟨a0, b0⟩ := k0.read; have zl := k0.lt)); (try (have zk := k1.lt; (first | ((with_reducible refine Blk.keepG hb k1 (fun h => ?_) ?_); (focus ((repeat' (first | (with_reducible assumption) | ((with_reducible refine Blk.new ?_); first | rfl | (simp; done)) | (with_reducible refine Blk.later (by assumption) ?_) | (with_reducible refine Blk.alloc ?_) | (with_reducible refine Blk.drewN ?_) | (with_reducible refine Blk.drew ?_) | (with_reducible refine Blk.other ?_ (by first | omega | (simp; done) | (simp; omega))))); done)); clear k1; intro k1) | (with_reducible replace k1 := Blk.later hb (Blk.set (Blk.set k1))) | (with_reducible replace k1 := Blk.later hb (Blk.set k1))); clear a1 b1; obtain ⟨a1, b1⟩ := k1.read; have zl := k1.lt)); (try (have zk := k2.lt; (first | ((with_reducible refine Blk.keepG hb k2 (fun h => ?_) ?_); (focus ((repeat' (first | (with_reducible assumption) | ((with_reducible refine Blk.new ?_); first | rfl | (simp; done)) | (with_reducible refine Blk.later (by assumption) ?_) | (with_reducible refine Blk.alloc ?_) | (with_reducible refine Blk.drewN ?_) | (with_reducible refine Blk.drew ?_) | (with_reducible refine Blk.other ?_ (by first | omega | (simp; done) | (simp; omega))))); done)); clear k2; intro k2) | (with_reducible replace k2 := Blk.later hb (Blk.set (Blk.set k2))) | (with_reducible replace k2 := Blk.later hb (Blk.set k2))); clear a2 b2; obtain ⟨a2, b2⟩ := k2.read; have zl := k2.lt)); (first | (have zk := kn.lt; (first | ((with_reducible refine Blk.keepG hb kn (fun h => ?_) ?_); (focus ((repeat' (first | (with_reducible assumption) | ((with_reducible refine Blk.new ?_); first | rfl | (simp; done)) | (with_reducible refine Blk.later (by assumption) ?_) | (with_reducible refine Blk.alloc ?_) | (with_reducible refine Blk.drewN ?_) | (with_reducible refine Blk.drew ?_) | (with_reducible refine Blk.other ?_ (by first | omega | (simp; done) | (simp; omega))))); done)); clear kn; intro kn) | (with_reducible replace kn := Blk.later hb (Blk.set (Blk.set kn))) | (with_reducible replace kn := Blk.later hb (Blk.set kn))); clear an bn; obtain ⟨an, bn⟩ := kn.read; have zl := kn.lt) | ((first | (with_reducible have kn := Blk.later hb (Blk.new rfl)) | (with_reducible have kn := Blk.later hb (Blk.drew (Blk.new rfl))) | (with_reducible have kn := Blk.later hb (Blk.drewN (Blk.new rfl)))); (try simp only [World.size_alloc, World.size_drew, World.heap_drewN] at kn); obtain ⟨an, bn⟩ := kn.read; have zl := kn.lt) | skip))
        | (go_at_call 105; (with_reducible refine (product_any c d (by omega) (by omega) (by omega) (by omega) _).mono ?_); rintro e w1 ⟨rfl, hb⟩; (try (have zk := k0.lt; (first | ((with_reducible refine Blk.keepG hb k0 (fun h => ?_) ?_); (focus ((repeat' (first | (with_reducible assumption) | ((with_reducible refine Blk.new ?_); first | rfl | (simp; done)) | (with_reducible refine Blk.later (by assumption) ?_) | (with_reducible refine Blk.alloc ?_) | (with_reducible refine Blk.drewN ?_) | (with_reducible refine Blk.drew ?_) | (with_reducible refine Blk.other ?_ (by first | omega | (simp; done) | (simp; omega))))); done)); clear k0; intro k0) | (with_reducible replace k0 := Blk.later hb (Blk.set (Blk.set k0))) | (with_reducible replace k0 := Blk.later hb (Blk.set k0))); clear a0 b0; obtain ⟨a0, b0⟩ := k0.read; have zl := k0.lt)); (try (have zk := k1.lt; (first | ((with_reducible refine Blk.keepG hb k1 (fun h => ?_) ?_); (focus ((repeat' (first | (with_reducible assumption) | ((with_reducible refine Blk.new ?_); first | rfl | (simp; done)) | (with_reducible refine Blk.later (by assumption) ?_) | (with_reducible refine Blk.alloc ?_) | (with_reducible refine Blk.drewN ?_) | (with_reducible refine Blk.drew ?_) | (with_reducible refine Blk.other ?_ (by first | omega | (simp; done) | (simp; omega))))); done)); clear k1; intro k1) | (with_reducible replace k1 := Blk.later hb (Blk.set (Blk.set k1))) | (with_reducible replace k1 := Blk.later hb (Blk.set k1))); clear a1 b1; obtain ⟨a1, b1⟩ := k1.read; have zl := k1.lt)); (try (have zk := k2.lt; (first | ((with_reducible refine Blk.keepG hb k2 (fun h => ?_) ?_); (focus ((repeat' (first | (with_reducible assumption) | ((with_reducible refine Blk.new ?_); first | rfl | (simp; done)) | (with_reducible refine Blk.later (by assumption) ?_) | (with_reducible refine Blk.alloc ?_) | (with_reducible refine Blk.drewN ?_) | (with_reducible refine Blk.drew ?_) | (with_reducible refine Blk.other ?_ (by first | omega | (simp; done) | (simp; omega))))); done)); clear k2; intro k2) | (with_reducible replace k2 := Blk.later hb (Blk.set (Blk.set k2))) | (with_reducible replace k2 := Blk.later hb (Blk.set k2))); clear a2 b2; obtain ⟨a2, b2⟩ := k2.read; have zl := k2.lt)); (first | (have zk := kn.lt; (first | ((with_reducible refine Blk.keepG hb kn (fun h => ?_) ?_); (focus ((repeat' (first | (with_reducible assumption) | ((with_reducible refine Blk.new ?_); first | rfl | (simp; done)) | (with_reducible refine Blk.later (by assumption) ?_) | (with_reducible refine Blk.alloc ?_) | (with_reducible refine Blk.drewN ?_) | (with_reducible refine Blk.drew ?_) | (with_reducible refine Blk.other ?_ (by first | omega | (simp; done) | (simp; omega))))); done)); clear kn; intro kn) | (with_reducible replace kn := Blk.later hb (Blk.set (Blk.set kn))) | (with_reducible replace kn := Blk.later hb (Blk.set kn))); clear an bn; obtain ⟨an, bn⟩ := kn.read; have zl := kn.lt) | ((first | (with_reducible have kn := Blk.later hb (Blk.new rfl)) | (with_reducible have kn := Blk.later hb (Blk.drew (Blk.new rfl))) | (with_reducible have kn := Blk.later hb (Blk.drewN (Blk.new rfl)))); (try simp only [World.size_alloc, World.size_drew, World.heap_drewN] at kn); obtain ⟨an, bn⟩ := kn.read; have zl := kn.lt) | skip))
        | (go_at_call 79; (with_reducible refine (HR.out _).mono ?_); rintro e w1 ⟨rfl, hb⟩; (try (have zk := k0.lt; (first | ((with_reducible refine Blk.keepG hb k0 (fun h => ?_) ?_); (focus ((repeat' (first | (with_reducible assumption) | ((with_reducible refine Blk.new ?_); first | rfl | (simp; done)) | (with_reducible refine Blk.later (by assumption) ?_) | (with_reducible refine Blk.alloc ?_) | (with_reducible refine Blk.drewN ?_) | (with_reducible refine Blk.drew ?_) | (with_reducible refine Blk.other ?_ (by first | omega | (simp; done) | (simp; omega))))); done)); clear k0; intro k0) | (with_reducible replace k0 := Blk.later hb (Blk.set (Blk.set k0))) | (with_reducible replace k0 := Blk.later hb (Blk.set k0))); clear a0 b0; obtain ⟨a0, b0⟩ := k0.read; have zl := k0.lt)); (try (have zk := k1.lt; (first | ((with_reducible refine Blk.keepG hb k1 (fun h => ?_) ?_); (focus ((repeat' (first | (with_reducible assumption) | ((with_reducible refine Blk.new ?_); first | rfl | (simp; done)) | (with_reducible refine Blk.later (by assumption) ?_) | (with_reducible refine Blk.alloc ?_) | (with_reducible refine Blk.drewN ?_) | (with_reducible refine Blk.drew ?_) | (with_reducible refine Blk.other ?_ (by first | omega | (simp; done) | (simp; omega))))); done)); clear k1; intro k1) | (with_reducible replace k1 := Blk.later hb (Blk.set (Blk.set k1))) | (with_reducible replace k1 := Blk.later hb (Blk.set k1))); clear a1 b1; obtain ⟨a1, b1⟩ := k1.read; have zl := k1.lt)); (try (have zk := k2.lt; (first | ((with_reducible refine Blk.keepG hb k2 (fun h => ?_) ?_); (focus ((repeat' (first | (with_reducible assumption) | ((with_reducible refine Blk.new ?_); first | rfl | (simp; done)) | (with_reducible refine Blk.later (by assumption) ?_) | (with_reducible refine Blk.alloc ?_) | (with_reducible refine Blk.drewN ?_) | (with_reducible refine Blk.drew ?_) | (with_reducible refine Blk.other ?_ (by first | omega | (simp; done) | (simp; omega))))); done)); clear k2; intro k2) | (with_reducible replace k2 := Blk.later hb (Blk.set (Blk.set k2))) | (with_reducible replace k2 := Blk.later hb (Blk.set k2))); clear a2 b2; obtain ⟨a2, b2⟩ := k2.read; have zl := k2.lt)); (first | (have zk := kn.lt; (first | ((with_reducible refine Blk.keepG hb kn (fun h => ?_) ?_); (focus ((repeat' (first | (with_reducible assumption) | ((with_reducible refine Blk.new ?_); first | rfl | (simp; done)) | (with_reducible refine Blk.later (by assumption) ?_) | (with_reducible refine Blk.alloc ?_) | (with_reducible refine Blk.drewN ?_) | (with_reducible refine Blk.drew ?_) | (with_reducible refine Blk.other ?_ (by first | omega | (simp; done) | (simp; omega))))); done)); clear kn; intro kn) | (with_reducible replace kn := Blk.later hb (Blk.set (Blk.set kn))) | (with_reducible replace kn := Blk.later hb (Blk.set kn))); clear an bn; obtain ⟨an, bn⟩ := kn.read; have zl := kn.lt) | ((first | (with_reducible have kn := Blk.later hb (Blk.new rfl)) | (with_reducible have kn := Blk.later hb (Blk.drew (Blk.new rfl))) | (with_reducible have kn := Blk.later hb (Blk.drewN (Blk.new rfl)))); (try simp only [World.size_alloc, World.size_drew, World.heap_drewN] at kn); obtain ⟨an, bn⟩ := kn.read; have zl := kn.lt) | skip)))
      all_goals
        go_wp2_with fail
        exact bodyPost_ret (v := .tuple #[.agg #[.int .i64 N, .int .i64 M], .int .i64 E]) (by simp only [results, Try.results111]; go_simp) rfl ⟨rfl, by (repeat' (first | (with_reducible exact Below.refl _ _) | (with_reducible assumption) | (with_reducible refine belowThru ?_ (by assumption)) | (with_reducible refine belowAlloc ?_) | (with_reducible refine Below.setCell ?_ (by first | omega | (simp; done) | (simp; omega)) _) | (with_reducible refine Below.drew ?_) | (with_reducible refine below_drewN ?_ _)))⟩
end Go.Proofs.Ytdimmnoflenfhaa
/-
  Layer 1: products, quotients, and Make.
-/
namespace Go.Proofs.Ytdimmnoflenfhaa
open Go.RowKit

theorem tdiv_in (t s : Int) (h1 : -4611686018427387903 ≤ t) (h2 : t ≤ 4611686018427387903) : -4611686018427387903 ≤ t.tdiv s ∧ t.tdiv s ≤ 4611686018427387903 := by
  have h1 : (t.tdiv s).natAbs ≤ t.natAbs := by
    rw [Int.natAbs_tdiv]; exact Nat.div_le_self _ _
  omega

theorem times_q (q r : Rat) (hq : fits q) (hr : fits r) (w : World) :
    Calls Try.prog 111 #[.agg #[.int .i64 (fn q), .int .i64 (fd q)], .agg #[.int .i64 (fn r), .int .i64 (fd r)]] w fun e w' => e = .returned (.tuple #[.agg #[.int .i64 (rn (q * r)), .int .i64 (rd (q * r))], .int .i64 (re (q * r))]) ∧ Below w.heap.size w w' := by
  have hq' := hq; have hr' := hr
  have fq := hq; have fr' := hr; unfold fits at fq fr'; obtain ⟨q1, q2, q3⟩ := fq; obtain ⟨r1, r2, r3⟩ := fr'; have q4 := fd_pos q; have r4 := fd_pos r
  have mg : ∀ x y, gcdI (mag x) y = gcdI x y := by
    intro x y; unfold gcdI; rw [mag_natAbs, Int.gcd_eq_natAbs_gcd_natAbs, Int.gcd_eq_natAbs_gcd_natAbs, Int.natAbs_natCast]
  obtain ⟨g, hg⟩ : ∃ g, g = gcdI (fn q) (fd r) := ⟨_, rfl⟩
  obtain ⟨h, hh⟩ : ∃ h, h = gcdI (fn r) (fd q) := ⟨_, rfl⟩
  obtain ⟨p1, p2⟩ := mul_parts q r g h hg hh
  have g1 : 0 < g := by rw [hg]; exact gcdI_pos_right _ _ (by omega)
  have g2 : g ≤ fd r := by rw [hg]; exact gcdI_le_right _ _ (by omega)
  have h1 : 0 < h := by rw [hh]; exact gcdI_pos_right _ _ (by omega)
  have h2 : h ≤ fd q := by rw [hh]; exact gcdI_le_right _ _ (by omega)
  have ba := tdiv_in (fn q) g q1 q2
  have bb := tdiv_in (fn r) h r1 r2
  have bc := div_bounds (fd q) h (by omega) h1 h2
  have bd := div_bounds (fd r) g (by omega) g1 g2
  have m0 := mag_lo (fn q); have m1 := mag_le (fn q) (by omega) (by omega); have m2 := mag_lo (fn r); have m3 := mag_le (fn r) (by omega) (by omega)
  have t1 := mul_bound ((fn q).tdiv g) ((fn r).tdiv h) 4611686018427387903 4611686018427387903 ba bb (by omega) (by omega)
  have t2 := mul_bound (fd q / h) (fd r / g) 4611686018427387903 4611686018427387903 ⟨by omega, by omega⟩ ⟨by omega, by omega⟩ (by omega) (by omega)
  refine times_walk q r hq' hr' g h _ _ (fd q / h) (fd r / g) _ _ _ w ?_ (by omega) (by omega) ?_ (by omega) (by omega) (IntWalk.i64_in _ ⟨by omega, by omega⟩) (IntWalk.i64_in _ ⟨by omega, by omega⟩) ?_ ?_ ba.1 ba.2 bb.1 bb.2 (by omega) (by omega) (by omega) (by omega) ?_
  · intro w; rw [hg, ← mg]; exact divisor_any _ _ (by omega) (by omega) (by omega) (by omega) w
  · intro w; rw [hh, ← mg]; exact divisor_any _ _ (by omega) (by omega) (by omega) (by omega) w
  · rw [Int.tdiv_eq_ediv_of_nonneg (by omega)]; exact IntWalk.i64_in _ ⟨by omega, by omega⟩
  · rw [Int.tdiv_eq_ediv_of_nonneg (by omega)]; exact IntWalk.i64_in _ ⟨by omega, by omega⟩
  · intro w; exact fraction_q (q * r) _ _ p1 p2 w (by omega) (by omega) (by omega)

theorem fits_inv (r : Rat) (h : fits r) (h0 : fn r ≠ 0) : fits r⁻¹ := by
  obtain ⟨a, b⟩ := inv_parts r h0
  have := fd_pos r
  unfold fits at *
  rcases (show fn r < 0 ∨ 0 ≤ fn r by omega) with k | k
  · obtain ⟨a1, a2⟩ := a k; rw [a1, a2]; omega
  · obtain ⟨a1, a2⟩ := b k; rw [a1, a2]; omega

set_option maxHeartbeats 1000000 in
theorem inverse_q (r : Rat) (hr : fits r) (h0 : fn r ≠ 0) (w : World) :
    Calls Try.prog 110 #[.agg #[.int .i64 (fn r), .int .i64 (fd r)]] w fun e w' => e = .returned (.agg #[.int .i64 (fn r⁻¹), .int .i64 (fd r⁻¹)]) ∧ Below w.heap.size w w' := by
  obtain ⟨a, b⟩ := inv_parts r h0
  have f4 := fd_pos r
  have hf := hr
  unfold fits at hf
  obtain ⟨f1, f2, f3⟩ := hf
  rcases (show fn r < 0 ∨ 0 ≤ fn r by omega) with k | k
  · obtain ⟨a1, a2⟩ := a k
    rw [a1, a2]
    clear a b a1 a2 h0
    go_enter Try.func110, Try.ntmps110
    go_wp2
    exact bodyPost_ret (v := .agg #[.int .i64 (-fd r), .int .i64 (-fn r)]) (by simp only [results, Try.results110]; go_simp) rfl ⟨rfl, by (repeat' (first | (with_reducible exact Below.refl _ _) | (with_reducible assumption) | (with_reducible refine belowThru ?_ (by assumption)) | (with_reducible refine belowAlloc ?_) | (with_reducible refine Below.setCell ?_ (by first | omega | (simp; done) | (simp; omega)) _) | (with_reducible refine Below.drew ?_) | (with_reducible refine below_drewN ?_ _)))⟩
  · obtain ⟨a1, a2⟩ := b k
    rw [a1, a2]
    clear a b a1 a2 h0
    go_enter Try.func110, Try.ntmps110
    go_wp2
    exact bodyPost_ret (v := .agg #[.int .i64 (fd r), .int .i64 (fn r)]) (by simp only [results, Try.results110]; go_simp) rfl ⟨rfl, by (repeat' (first | (with_reducible exact Below.refl _ _) | (with_reducible assumption) | (with_reducible refine belowThru ?_ (by assumption)) | (with_reducible refine belowAlloc ?_) | (with_reducible refine Below.setCell ?_ (by first | omega | (simp; done) | (simp; omega)) _) | (with_reducible refine Below.drew ?_) | (with_reducible refine below_drewN ?_ _)))⟩

set_option maxRecDepth 100000 in
set_option maxHeartbeats 4000000 in
theorem make_walk (n d g x y t N M E : Int) (w : World) (n1 : -9223372036854775808 ≤ n) (n2 : n ≤ 9223372036854775807) (d1 : -9223372036854775808 ≤ d) (d2 : d ≤ 9223372036854775807) (d0 : (d == 0) = false)
    (HG : Hid (∀ w, Calls Try.prog 76 #[.int .u64 (mag n), .int .u64 (mag d)] w fun e w' => e = .returned (.int .u64 g) ∧ Below w.heap.size w w')) (g1 : 1 ≤ g) (g2 : g ≤ 9223372036854775808)
    (ex : IntKind.u64.wrap ((mag n).tdiv g) = x) (ey : IntKind.u64.wrap ((mag d).tdiv g) = y) (x0 : 0 ≤ x) (x1 : x ≤ 18446744073709551615) (_y0 : 0 ≤ y) (_y1 : y ≤ 18446744073709551615)
    (ht : Hid (t = if (!(decide (n < 0) == decide (d < 0))) = true then -x else x))
    (HR : Hid (∀ w, Calls Try.prog 79 #[.agg #[.int .u64 (whi t), .int .u64 (wlo t)], .agg #[.int .u64 0, .int .u64 y]] w fun e w' => e = .returned (.tuple #[.agg #[.int .i64 N, .int .i64 M], .int .i64 E]) ∧ Below w.heap.size w w')) :
    Calls Try.prog 45 #[.int .i64 n, .int .i64 d] w fun e w' => e = .returned (.tuple #[.agg #[.int .i64 N, .int .i64 M], .int .i64 E]) ∧ Below w.heap.size w w' := by
  have HA : Hid (∀ w, Calls Try.prog 77 #[.int .i64 n] w fun e w' => e = .returned (.int .u64 (mag n)) ∧ w = w') := size_any n n1 n2
  have HB : Hid (∀ w, Calls Try.prog 77 #[.int .i64 d] w fun e w' => e = .returned (.int .u64 (mag d)) ∧ w = w') := size_any d d1 d2
  have v3 : ¬ g = 0 := by omega
  have m0 := mag_lo n; have m1 := mag_le n n1 n2; have m2 := mag_lo d; have m3 := mag_le d d1 d2
  go_enter Try.func45, Try.ntmps45
  go_upto_region 3 with fail
  go_cut [6] (fun s6 wx => s6 = .int .u64 g ∧ Blk wx w.heap.size #[.int .i64 0, .int .i64 0] 23 ∧ Below w.heap.size w wx)
  case first =>
    go_wp2_with (first
      | (go_at_call 77; (with_reducible refine (HA.out _).mono ?_); rintro e w1 ⟨rfl, rfl⟩)
      | (go_at_call 77; (with_reducible refine (HB.out _).mono ?_); rintro e w1 ⟨rfl, rfl⟩)
      | (go_at_call 76; (with_reducible refine (HG.out _).mono ?_); rintro e w1 ⟨rfl, hb⟩))
    go_meet
    exact ⟨rfl, by (repeat' (first | (with_reducible assumption) | ((with_reducible refine Blk.new ?_); first | rfl | (simp; done)) | (with_reducible refine Blk.later (by assumption) ?_) | (with_reducible refine Blk.alloc ?_) | (with_reducible refine Blk.drewN ?_) | (with_reducible refine Blk.drew ?_) | (with_reducible refine Blk.other ?_ (by first | omega | (simp; done) | (simp; omega))))), by (repeat' (first | (with_reducible exact Below.refl _ _) | (with_reducible assumption) | (with_reducible refine belowThru ?_ (by assumption)) | (with_reducible refine belowAlloc ?_) | (with_reducible refine Below.setCell ?_ (by first | omega | (simp; done) | (simp; omega)) _) | (with_reducible refine Below.drew ?_) | (with_reducible refine below_drewN ?_ _)))⟩
  case rest =>
    obtain ⟨rfl, k0, hB⟩ := hcut
    obtain ⟨a0, b0⟩ := k0.read
    have z0 := k0.lt
    go_upto_region 4 with fail
    go_cut [7, 8] (fun s7 s8 wx => At2 wx (w.heap.size + 1) #[.int .u64 0, .int .u64 x] #[.int .u64 0, .int .u64 y] 109 s7 s8 ∧ Blk wx w.heap.size #[.int .i64 0, .int .i64 0] 23 ∧ Below w.heap.size w wx)
    case first =>
      have v5 : IntKind.u64.wrap ((mag n).tdiv g) = x := ex
      go_region_held3 (fun w' => (Blk w' w.heap.size #[.int .i64 0, .int .i64 0] 23 ∧ (∀ i : Nat, w'.cell? ⟨w.heap.size, i, none⟩ = (#[.int .i64 0, .int .i64 0] : Array Value)[i]?)) ∧ Below w.heap.size w w')
        (((first | (apply hold1; (focus assumption); intro p0 pB) | skip); refine ⟨Blk.full ?_, ?_⟩; all_goals (first | ((repeat' (first | (with_reducible assumption) | ((with_reducible refine Blk.new ?_); first | rfl | (simp; done)) | (with_reducible refine Blk.later (by assumption) ?_) | (with_reducible refine Blk.alloc ?_) | (with_reducible refine Blk.drewN ?_) | (with_reducible refine Blk.drew ?_) | (with_reducible refine Blk.other ?_ (by first | omega | (simp; done) | (simp; omega))))); done) | ((repeat' (first | (with_reducible exact Below.refl _ _) | (with_reducible assumption) | (with_reducible refine belowThru ?_ (by assumption)) | (with_reducible refine belowAlloc ?_) | (with_reducible refine Below.setCell ?_ (by first | omega | (simp; done) | (simp; omega)) _) | (with_reducible refine Below.drew ?_) | (with_reducible refine below_drewN ?_ _))); done))))
        (first
        | (go_at_call 77; (with_reducible refine (HA.out _).mono ?_); rintro e w1 ⟨rfl, rfl⟩)
        | (go_at_call 77; (with_reducible refine (HB.out _).mono ?_); rintro e w1 ⟨rfl, rfl⟩))
      all_goals
        go_wp2_with fail
        go_meet
        refine ⟨At2.mk (by omega) (by omega) (by omega) ?_ ?_, ?_, ?_⟩
        · (repeat' (first | (with_reducible assumption) | ((with_reducible refine Blk.new ?_); first | rfl | (simp; done)) | (with_reducible refine Blk.later (by assumption) ?_) | (with_reducible refine Blk.alloc ?_) | (with_reducible refine Blk.drewN ?_) | (with_reducible refine Blk.drew ?_) | (with_reducible refine Blk.other ?_ (by first | omega | (simp; done) | (simp; omega)))))
        · (repeat' (first | (with_reducible assumption) | ((with_reducible refine Blk.new ?_); first | rfl | (simp; done)) | (with_reducible refine Blk.later (by assumption) ?_) | (with_reducible refine Blk.alloc ?_) | (with_reducible refine Blk.drewN ?_) | (with_reducible refine Blk.drew ?_) | (with_reducible refine Blk.other ?_ (by first | omega | (simp; done) | (simp; omega)))))
        · (repeat' (first | (with_reducible assumption) | ((with_reducible refine Blk.new ?_); first | rfl | (simp; done)) | (with_reducible refine Blk.later (by assumption) ?_) | (with_reducible refine Blk.alloc ?_) | (with_reducible refine Blk.drewN ?_) | (with_reducible refine Blk.drew ?_) | (with_reducible refine Blk.other ?_ (by first | omega | (simp; done) | (simp; omega)))))
        · (repeat' (first | (with_reducible exact Below.refl _ _) | (with_reducible assumption) | (with_reducible refine belowThru ?_ (by assumption)) | (with_reducible refine belowAlloc ?_) | (with_reducible refine Below.setCell ?_ (by first | omega | (simp; done) | (simp; omega)) _) | (with_reducible refine Below.drew ?_) | (with_reducible refine below_drewN ?_ _)))
    case rest =>
      obtain ⟨⟨p1, p2, rfl, rfl, l1, l2, hn, k1, k2⟩, k0, hB⟩ := hcut
      obtain ⟨a0, b0⟩ := k0.read; obtain ⟨a1, b1⟩ := k1.read; obtain ⟨a2, b2⟩ := k2.read
      have z0 := k0.lt; have z1 := k1.lt; have z2 := k2.lt
      have w1 := whi_of x x0 x1; have w2 := wlo_of x x0 x1
      have hs : (!(decide (n < 0) == decide (d < 0))) = true ∨ (!(decide (n < 0) == decide (d < 0))) = false := by
        cases (!(decide (n < 0) == decide (d < 0))) <;> simp
      rcases hs with hs | hs
      · have ht' := ht.out
        rw [if_pos hs] at ht'
        have HO : Hid (∀ w, Calls Try.prog 78 #[.agg #[.int .u64 0, .int .u64 x]] w fun e w' => e = .returned (.agg #[.int .u64 (whi t), .int .u64 (wlo t)]) ∧ Below w.heap.size w w') := by
          intro w; have := opposite_any x w; rw [w1, w2, ← ht'] at this; exact this
        clear w1 w2 ht' ht
        go_wp2_with (first
          | (go_at_call 78; (with_reducible refine (HO.out _).mono ?_); rintro e w1 ⟨rfl, hb⟩; (try (have zk := k0.lt; (first | ((with_reducible refine Blk.keepG hb k0 (fun h => ?_) ?_); (focus ((repeat' (first | (with_reducible assumption) | ((with_reducible refine Blk.new ?_); first | rfl | (simp; done)) | (with_reducible refine Blk.later (by assumption) ?_) | (with_reducible refine Blk.alloc ?_) | (with_reducible refine Blk.drewN ?_) | (with_reducible refine Blk.drew ?_) | (with_reducible refine Blk.other ?_ (by first | omega | (simp; done) | (simp; omega))))); done)); clear k0; intro k0) | (with_reducible replace k0 := Blk.later hb (Blk.set (Blk.set k0))) | (with_reducible replace k0 := Blk.later hb (Blk.set k0))); clear a0 b0; obtain ⟨a0, b0⟩ := k0.read; have zl := k0.lt)); (try (have zk := k1.lt; (first | ((with_reducible refine Blk.keepG hb k1 (fun h => ?_) ?_); (focus ((repeat' (first | (with_reducible assumption) | ((with_reducible refine Blk.new ?_); first | rfl | (simp; done)) | (with_reducible refine Blk.later (by assumption) ?_) | (with_reducible refine Blk.alloc ?_) | (with_reducible refine Blk.drewN ?_) | (with_reducible refine Blk.drew ?_) | (with_reducible refine Blk.other ?_ (by first | omega | (simp; done) | (simp; omega))))); done)); clear k1; intro k1) | (with_reducible replace k1 := Blk.later hb (Blk.set (Blk.set k1))) | (with_reducible replace k1 := Blk.later hb (Blk.set k1))); clear a1 b1; obtain ⟨a1, b1⟩ := k1.read; have zl := k1.lt)); (try (have zk := k2.lt; (first | ((with_reducible refine Blk.keepG hb k2 (fun h => ?_) ?_); (focus ((repeat' (first | (with_reducible assumption) | ((with_reducible refine Blk.new ?_); first | rfl | (simp; done)) | (with_reducible refine Blk.later (by assumption) ?_) | (with_reducible refine Blk.alloc ?_) | (with_reducible refine Blk.drewN ?_) | (with_reducible refine Blk.drew ?_) | (with_reducible refine Blk.other ?_ (by first | omega | (simp; done) | (simp; omega))))); done)); clear k2; intro k2) | (with_reducible replace k2 := Blk.later hb (Blk.set (Blk.set k2))) | (with_reducible replace k2 := Blk.later hb (Blk.set k2))); clear a2 b2; obtain ⟨a2, b2⟩ := k2.read; have zl := k2.lt)); (first | (have zk := kn.lt; (first | ((with_reducible refine Blk.keepG hb kn (fun h => ?_) ?_); (focus ((repeat' (first | (with_reducible assumption) | ((with_reducible refine Blk.new ?_); first | rfl | (simp; done)) | (with_reducible refine Blk.later (by assumption) ?_) | (with_reducible refine Blk.alloc ?_) | (with_reducible refine Blk.drewN ?_) | (with_reducible refine Blk.drew ?_) | (with_reducible refine Blk.other ?_ (by first | omega | (simp; done) | (simp; omega))))); done)); clear kn; intro kn) | (with_reducible replace kn := Blk.later hb (Blk.set (Blk.set kn))) | (with_reducible replace kn := Blk.later hb (Blk.set kn))); clear an bn; obtain ⟨an, bn⟩ := kn.read; have zl := kn.lt) | ((first | (with_reducible have kn := Blk.later hb (Blk.new rfl)) | (with_reducible have kn := Blk.later hb (Blk.drew (Blk.new rfl))) | (with_reducible have kn := Blk.later hb (Blk.drewN (Blk.new rfl)))); (try simp only [World.size_alloc, World.size_drew, World.heap_drewN] at kn); obtain ⟨an, bn⟩ := kn.read; have zl := kn.lt) | skip))
          | (go_at_call 79; (with_reducible refine (HR.out _).mono ?_); rintro e w1 ⟨rfl, hb⟩; (try (have zk := k0.lt; (first | ((with_reducible refine Blk.keepG hb k0 (fun h => ?_) ?_); (focus ((repeat' (first | (with_reducible assumption) | ((with_reducible refine Blk.new ?_); first | rfl | (simp; done)) | (with_reducible refine Blk.later (by assumption) ?_) | (with_reducible refine Blk.alloc ?_) | (with_reducible refine Blk.drewN ?_) | (with_reducible refine Blk.drew ?_) | (with_reducible refine Blk.other ?_ (by first | omega | (simp; done) | (simp; omega))))); done)); clear k0; intro k0) | (with_reducible replace k0 := Blk.later hb (Blk.set (Blk.set k0))) | (with_reducible replace k0 := Blk.later hb (Blk.set k0))); clear a0 b0; obtain ⟨a0, b0⟩ := k0.read; have zl := k0.lt)); (try (have zk := k1.lt; (first | ((with_reducible refine Blk.keepG hb k1 (fun h => ?_) ?_); (focus ((repeat' (first | (with_reducible assumption) | ((with_reducible refine Blk.new ?_); first | rfl | (simp; done)) | (with_reducible refine Blk.later (by assumption) ?_) | (with_reducible refine Blk.alloc ?_) | (with_reducible refine Blk.drewN ?_) | (with_reducible refine Blk.drew ?_) | (with_reducible refine Blk.other ?_ (by first | omega | (simp; done) | (simp; omega))))); done)); clear k1; intro k1) | (with_reducible replace k1 := Blk.later hb (Blk.set (Blk.set k1))) | (with_reducible replace k1 := Blk.later hb (Blk.set k1))); clear a1 b1; obtain ⟨a1, b1⟩ := k1.read; have zl := k1.lt)); (try (have zk := k2.lt; (first | ((with_reducible refine Blk.keepG hb k2 (fun h => ?_) ?_); (focus ((repeat' (first | (with_reducible assumption) | ((with_reducible refine Blk.new ?_); first | rfl | (simp; done)) | (with_reducible refine Blk.later (by assumption) ?_) | (with_reducible refine Blk.alloc ?_) | (with_reducible refine Blk.drewN ?_) | (with_reducible refine Blk.drew ?_) | (with_reducible refine Blk.other ?_ (by first | omega | (simp; done) | (simp; omega))))); done)); clear k2; intro k2) | (with_reducible replace k2 := Blk.later hb (Blk.set (Blk.set k2))) | (with_reducible replace k2 := Blk.later hb (Blk.set k2))); clear a2 b2; obtain ⟨a2, b2⟩ := k2.read; have zl := k2.lt)); (first | (have zk := kn.lt; (first | ((with_reducible refine Blk.keepG hb kn (fun h => ?_) ?_); (focus ((repeat' (first | (with_reducible assumption) | ((with_reducible refine Blk.new ?_); first | rfl | (simp; done)) | (with_reducible refine Blk.later (by assumption) ?_) | (with_reducible refine Blk.alloc ?_) | (with_reducible refine Blk.drewN ?_) | (with_reducible refine Blk.drew ?_) | (with_reducible refine Blk.other ?_ (by first | omega | (simp; done) | (simp; omega))))); done)); clear kn; intro kn) | (with_reducible replace kn := Blk.later hb (Blk.set (Blk.set kn))) | (with_reducible replace kn := Blk.later hb (Blk.set kn))); clear an bn; obtain ⟨an, bn⟩ := kn.read; have zl := kn.lt) | ((first | (with_reducible have kn := Blk.later hb (Blk.new rfl)) | (with_reducible have kn := Blk.later hb (Blk.drew (Blk.new rfl))) | (with_reducible have kn := Blk.later hb (Blk.drewN (Blk.new rfl)))); (try simp only [World.size_alloc, World.size_drew, World.heap_drewN] at kn); obtain ⟨an, bn⟩ := kn.read; have zl := kn.lt) | skip)))
        exact bodyPost_ret (v := .tuple #[.agg #[.int .i64 N, .int .i64 M], .int .i64 E]) (by simp only [results, Try.results45]; go_simp) rfl ⟨rfl, by (repeat' (first | (with_reducible exact Below.refl _ _) | (with_reducible assumption) | (with_reducible refine belowThru ?_ (by assumption)) | (with_reducible refine belowAlloc ?_) | (with_reducible refine Below.setCell ?_ (by first | omega | (simp; done) | (simp; omega)) _) | (with_reducible refine Below.drew ?_) | (with_reducible refine below_drewN ?_ _)))⟩
      · have ht' := ht.out
        rw [if_neg (by rw [hs]; decide)] at ht'
        have HQ : Hid (∀ w, Calls Try.prog 79 #[.agg #[.int .u64 0, .int .u64 x], .agg #[.int .u64 0, .int .u64 y]] w fun e w' => e = .returned (.tuple #[.agg #[.int .i64 N, .int .i64 M], .int .i64 E]) ∧ Below w.heap.size w w') := by
          intro w; have := HR.out w; rw [ht', w1, w2] at this; exact this
        clear w1 w2 ht' ht
        go_wp2_with (go_at_call 79; (with_reducible refine (HQ.out _).mono ?_); rintro e w1 ⟨rfl, hb⟩; (try (have zk := k0.lt; (first | ((with_reducible refine Blk.keepG hb k0 (fun h => ?_) ?_); (focus ((repeat' (first | (with_reducible assumption) | ((with_reducible refine Blk.new ?_); first | rfl | (simp; done)) | (with_reducible refine Blk.later (by assumption) ?_) | (with_reducible refine Blk.alloc ?_) | (with_reducible refine Blk.drewN ?_) | (with_reducible refine Blk.drew ?_) | (with_reducible refine Blk.other ?_ (by first | omega | (simp; done) | (simp; omega))))); done)); clear k0; intro k0) | (with_reducible replace k0 := Blk.later hb (Blk.set (Blk.set k0))) | (with_reducible replace k0 := Blk.later hb (Blk.set k0))); clear a0 b0; obtain ⟨a0, b0⟩ := k0.read; have zl := k0.lt)); (try (have zk := k1.lt; (first | ((with_reducible refine Blk.keepG hb k1 (fun h => ?_) ?_); (focus ((repeat' (first | (with_reducible assumption) | ((with_reducible refine Blk.new ?_); first | rfl | (simp; done)) | (with_reducible refine Blk.later (by assumption) ?_) | (with_reducible refine Blk.alloc ?_) | (with_reducible refine Blk.drewN ?_) | (with_reducible refine Blk.drew ?_) | (with_reducible refine Blk.other ?_ (by first | omega | (simp; done) | (simp; omega))))); done)); clear k1; intro k1) | (with_reducible replace k1 := Blk.later hb (Blk.set (Blk.set k1))) | (with_reducible replace k1 := Blk.later hb (Blk.set k1))); clear a1 b1; obtain ⟨a1, b1⟩ := k1.read; have zl := k1.lt)); (try (have zk := k2.lt; (first | ((with_reducible refine Blk.keepG hb k2 (fun h => ?_) ?_); (focus ((repeat' (first | (with_reducible assumption) | ((with_reducible refine Blk.new ?_); first | rfl | (simp; done)) | (with_reducible refine Blk.later (by assumption) ?_) | (with_reducible refine Blk.alloc ?_) | (with_reducible refine Blk.drewN ?_) | (with_reducible refine Blk.drew ?_) | (with_reducible refine Blk.other ?_ (by first | omega | (simp; done) | (simp; omega))))); done)); clear k2; intro k2) | (with_reducible replace k2 := Blk.later hb (Blk.set (Blk.set k2))) | (with_reducible replace k2 := Blk.later hb (Blk.set k2))); clear a2 b2; obtain ⟨a2, b2⟩ := k2.read; have zl := k2.lt)); (first | (have zk := kn.lt; (first | ((with_reducible refine Blk.keepG hb kn (fun h => ?_) ?_); (focus ((repeat' (first | (with_reducible assumption) | ((with_reducible refine Blk.new ?_); first | rfl | (simp; done)) | (with_reducible refine Blk.later (by assumption) ?_) | (with_reducible refine Blk.alloc ?_) | (with_reducible refine Blk.drewN ?_) | (with_reducible refine Blk.drew ?_) | (with_reducible refine Blk.other ?_ (by first | omega | (simp; done) | (simp; omega))))); done)); clear kn; intro kn) | (with_reducible replace kn := Blk.later hb (Blk.set (Blk.set kn))) | (with_reducible replace kn := Blk.later hb (Blk.set kn))); clear an bn; obtain ⟨an, bn⟩ := kn.read; have zl := kn.lt) | ((first | (with_reducible have kn := Blk.later hb (Blk.new rfl)) | (with_reducible have kn := Blk.later hb (Blk.drew (Blk.new rfl))) | (with_reducible have kn := Blk.later hb (Blk.drewN (Blk.new rfl)))); (try simp only [World.size_alloc, World.size_drew, World.heap_drewN] at kn); obtain ⟨an, bn⟩ := kn.read; have zl := kn.lt) | skip))
        exact bodyPost_ret (v := .tuple #[.agg #[.int .i64 N, .int .i64 M], .int .i64 E]) (by simp only [results, Try.results45]; go_simp) rfl ⟨rfl, by (repeat' (first | (with_reducible exact Below.refl _ _) | (with_reducible assumption) | (with_reducible refine belowThru ?_ (by assumption)) | (with_reducible refine belowAlloc ?_) | (with_reducible refine Below.setCell ?_ (by first | omega | (simp; done) | (simp; omega)) _) | (with_reducible refine Below.drew ?_) | (with_reducible refine below_drewN ?_ _)))⟩
end Go.Proofs.Ytdimmnoflenfhaa
/-
  Layer 1: lists of two fractions are checked.
-/
namespace Go.Proofs.Ytdimmnoflenfhaa
open Go.RowKit

/-- 0, or the error that one of two fractions is not valid. -/
def ck2 (a b c d : Int) : Int := if okF a b then ck c d else 8
theorem ck_ok {a b : Int} (h : okF a b) : ck a b = 0 := if_pos h
theorem ck_no {a b : Int} (h : ¬ okF a b) : ck a b = 8 := if_neg h

/-- How far the list has been checked. -/
def Far (a b c d : Int) (i : Value) : Prop := i = .int .i64 0 ∨ (i = .int .i64 1 ∧ okF a b) ∨ (i = .int .i64 2 ∧ okF a b ∧ okF c d)

set_option maxHeartbeats 2000000 in
theorem checkAll_two (a b c d : Int) (B : Nat) (w : World) (h0 : w.cell? ⟨B, 0, none⟩ = some (.int .i64 a)) (h1 : w.cell? ⟨B, 1, none⟩ = some (.int .i64 b)) (h2 : w.cell? ⟨B, 2, none⟩ = some (.int .i64 c)) (h3 : w.cell? ⟨B, 3, none⟩ = some (.int .i64 d)) :
    Calls Try.prog 80 #[.slice (some ⟨B, 0, none⟩) 2 2] w fun e w' => e = .returned (.int .i64 (ck2 a b c d)) ∧ Below w.heap.size w w' := by
  have HB : B < w.heap.size := World.block_lt_of_cell? w ⟨B, 0, none⟩ h0
  go_enter Try.func80, Try.ntmps80
  go_wp2
  go_loopw [8] (fun i wr => Far a b c d i ∧ Below w.heap.size w wr) (fun i _ => (2 - intOf i).toNat)
  case atStart => exact ⟨Or.inl rfl, Below.refl _ _⟩
  case round =>
    obtain ⟨hi, hb0⟩ := hrel
    have g0 := cell_later (hb0.mono (Nat.le_refl _)) h0
    have g1 := cell_later (hb0.mono (Nat.le_refl _)) h1
    have g2 := cell_later (hb0.mono (Nat.le_refl _)) h2
    have g3 := cell_later (hb0.mono (Nat.le_refl _)) h3
    have hz := hb0.size
    clear h0 h1 h2 h3
    rcases hi with rfl | ⟨rfl, ha⟩ | ⟨rfl, ha, hc⟩
    · by_cases ha : okF a b
      · have hd : (ck a b != 0) = false := by rw [ck_ok ha]; rfl
        go_wp2_with (go_at_call 104; (with_reducible refine (check_any a b _).mono ?_); rintro e w1 ⟨rfl, hb⟩)
        go_roundw
        case rel => exact ⟨Or.inr (Or.inl ⟨rfl, ha⟩), by (repeat' (first | (with_reducible exact Below.refl _ _) | (with_reducible assumption) | (with_reducible refine belowThru ?_ (by assumption)) | (with_reducible refine belowAlloc ?_) | (with_reducible refine Below.setCell ?_ (by first | omega | (simp; done) | (simp; omega)) _) | (with_reducible refine Below.drew ?_) | (with_reducible refine below_drewN ?_ _)))⟩
        case measure => simp [intOf]
      · have hd : (ck a b != 0) = true := by rw [ck_no ha]; rfl
        have he : Hid (ck a b = ck2 a b c d) := by show _ = _; rw [ck_no ha]; exact (if_neg ha).symm
        go_wp2_with (go_at_call 104; (with_reducible refine (check_any a b _).mono ?_); rintro e w1 ⟨rfl, hb⟩)
        go_ret
        rw [← he.out]
        exact ⟨rfl, by (repeat' (first | (with_reducible exact Below.refl _ _) | (with_reducible assumption) | (with_reducible refine belowThru ?_ (by assumption)) | (with_reducible refine belowAlloc ?_) | (with_reducible refine Below.setCell ?_ (by first | omega | (simp; done) | (simp; omega)) _) | (with_reducible refine Below.drew ?_) | (with_reducible refine below_drewN ?_ _)))⟩
    · by_cases hc : okF c d
      · have hd : (ck c d != 0) = false := by rw [ck_ok hc]; rfl
        go_wp2_with (go_at_call 104; (with_reducible refine (check_any c d _).mono ?_); rintro e w1 ⟨rfl, hb⟩)
        go_roundw
        case rel => exact ⟨Or.inr (Or.inr ⟨rfl, ha, hc⟩), by (repeat' (first | (with_reducible exact Below.refl _ _) | (with_reducible assumption) | (with_reducible refine belowThru ?_ (by assumption)) | (with_reducible refine belowAlloc ?_) | (with_reducible refine Below.setCell ?_ (by first | omega | (simp; done) | (simp; omega)) _) | (with_reducible refine Below.drew ?_) | (with_reducible refine below_drewN ?_ _)))⟩
        case measure => simp [intOf]
      · have hd : (ck c d != 0) = true := by rw [ck_no hc]; rfl
        have he : Hid (ck c d = ck2 a b c d) := by show _ = _; exact (if_pos ha).symm
        go_wp2_with (go_at_call 104; (with_reducible refine (check_any c d _).mono ?_); rintro e w1 ⟨rfl, hb⟩)
        go_ret
        rw [← he.out]
        exact ⟨rfl, by (repeat' (first | (with_reducible exact Below.refl _ _) | (with_reducible assumption) | (with_reducible refine belowThru ?_ (by assumption)) | (with_reducible refine belowAlloc ?_) | (with_reducible refine Below.setCell ?_ (by first | omega | (simp; done) | (simp; omega)) _) | (with_reducible refine Below.drew ?_) | (with_reducible refine below_drewN ?_ _)))⟩
    · have he : Hid (0 = ck2 a b c d) := by show _ = _; exact ((if_pos ha).trans (ck_ok hc)).symm
      go_wp2
      go_ret
      rw [← he.out]
      exact ⟨rfl, hb0⟩
end Go.Proofs.Ytdimmnoflenfhaa
/-
  Layer 1: the calls on fractions, for any fractions.
-/
namespace Go.Proofs.Ytdimmnoflenfhaa
open Go.RowKit

theorem ck2_ok {q r : Rat} (hq : fits q) (hr : fits r) : ck2 (fn q) (fd q) (fn r) (fd r) = 0 := (if_pos (okF_q hq)).trans (ck_ok (okF_q hr))
theorem ck2_no {a b c d : Int} (h : ¬ (okF a b ∧ okF c d)) : ck2 a b c d = 8 := by
  unfold ck2
  by_cases k : okF a b
  · rw [if_pos k]; exact ck_no (fun x => h ⟨k, x⟩)
  · exact if_neg k

theorem make_q (n d : Int) (w : World) (n1 : -9223372036854775808 ≤ n) (n2 : n ≤ 9223372036854775807) (d1 : -9223372036854775808 ≤ d) (d2 : d ≤ 9223372036854775807) (d0 : d ≠ 0) :
    Calls Try.prog 45 #[.int .i64 n, .int .i64 d] w fun e w' => e = .returned (.tuple #[.agg #[.int .i64 (rn (mkR n d)), .int .i64 (rd (mkR n d))], .int .i64 (re (mkR n d))]) ∧ Below w.heap.size w w' := by
  obtain ⟨g, hg⟩ : ∃ g, g = gcdI (n.natAbs : Int) (d.natAbs : Int) := ⟨_, rfl⟩
  obtain ⟨p1, p2⟩ := mkR_parts n d g d0 hg
  have m0 := mag_lo n; have m1 := mag_le n n1 n2; have m2 := mag_lo d; have m3 := mag_le d d1 d2
  rw [← mag_natAbs, ← mag_natAbs] at hg
  rw [← mag_natAbs] at p1 p2
  have mp : 0 < mag d := by rw [mag_natAbs]; omega
  have g1 : 0 < g := by rw [hg]; exact gcdI_pos_right _ _ mp
  have g2 : g ≤ mag d := by rw [hg]; exact gcdI_le_right _ _ mp
  have bx0 := Int.ediv_nonneg m0 (show 0 ≤ g by omega)
  have bx1 := Int.ediv_le_self g m0
  have by0 := Int.ediv_nonneg m2 (show 0 ≤ g by omega)
  have by1 := Int.ediv_le_self g m2
  have ht : (if (!(decide (n < 0) == decide (d < 0))) = true then -(mag n / g) else mag n / g) = fn (mkR n d) := by
    rw [p1]
    rcases Int.lt_trichotomy n 0 with hn | hn | hn <;> rcases Int.lt_trichotomy d 0 with hd | hd | hd
    · rw [Int.sign_eq_neg_one_of_neg hn, Int.sign_eq_neg_one_of_neg hd, decide_eq_true hn, decide_eq_true hd]; simp
    · exact absurd hd d0
    · rw [Int.sign_eq_neg_one_of_neg hn, Int.sign_eq_one_of_pos hd, decide_eq_true hn, decide_eq_false (by omega)]; simp
    · subst hn; rw [show mag 0 = 0 from rfl]; simp
    · exact absurd hd d0
    · subst hn; rw [show mag 0 = 0 from rfl]; simp
    · rw [Int.sign_eq_one_of_pos hn, Int.sign_eq_neg_one_of_neg hd, decide_eq_false (by omega), decide_eq_true hd]; simp
    · exact absurd hd d0
    · rw [Int.sign_eq_one_of_pos hn, Int.sign_eq_one_of_pos hd, decide_eq_false (by omega), decide_eq_false (by omega)]; simp
  refine make_walk n d g (mag n / g) (mag d / g) _ _ _ _ w n1 n2 d1 d2 (by simpa using d0) ?_ (by omega) (by omega) ?_ ?_ bx0 (by omega) by0 (by omega) rfl ?_
  · intro w
    refine (divisor_any (mag n) (mag d) (by omega) (by omega) (by omega) (by omega) w).mono fun e w' ⟨he, k, hw⟩ => ⟨by rw [he, hg], by rw [hw]; exact below_drewN (Below.refl _ _) k⟩
  · rw [Int.tdiv_eq_ediv_of_nonneg m0, IntKind.wrap_u64]; omega
  · rw [Int.tdiv_eq_ediv_of_nonneg m2, IntKind.wrap_u64]; omega
  · intro w
    have := fraction_q (mkR n d) _ (mag d / g) ht p2.symm w (by split <;> omega) (by split <;> omega) (by omega)
    rw [whi_of (mag d / g) by0 (by omega), wlo_of (mag d / g) by0 (by omega)] at this
    exact this

set_option maxHeartbeats 1000000 in
theorem make_zero (n : Int) (w : World) :
    Calls Try.prog 45 #[.int .i64 n, .int .i64 0] w fun e w' => e = .returned (.tuple #[.agg #[.int .i64 0, .int .i64 0], .int .i64 10]) ∧ Below w.heap.size w w' := by
  go_enter Try.func45, Try.ntmps45
  go_wp2
  exact bodyPost_ret (v := .tuple #[.agg #[.int .i64 0, .int .i64 0], .int .i64 10]) (by simp only [results, Try.results45]; go_simp) rfl ⟨rfl, by (repeat' (first | (with_reducible exact Below.refl _ _) | (with_reducible assumption) | (with_reducible refine belowThru ?_ (by assumption)) | (with_reducible refine belowAlloc ?_) | (with_reducible refine Below.setCell ?_ (by first | omega | (simp; done) | (simp; omega)) _) | (with_reducible refine Below.drew ?_) | (with_reducible refine below_drewN ?_ _)))⟩

set_option maxHeartbeats 1000000 in
theorem sub_q (q r : Rat) (hq : fits q) (hr : fits r) (w : World) :
    Calls Try.prog 90 #[.agg #[.int .i64 (fn q), .int .i64 (fd q)], .agg #[.int .i64 (fn r), .int .i64 (fd r)]] w fun e w' => e = .returned (.tuple #[.agg #[.int .i64 (rn (q - r)), .int .i64 (rd (q - r))], .int .i64 (re (q - r))]) ∧ Below w.heap.size w w' := by
  have HC := Lib.hid (combine_minus q r hq hr)
  have hd : (ck2 (fn q) (fd q) (fn r) (fd r) != 0) = false := by rw [ck2_ok hq hr]; rfl
  clear hq hr
  go_enter Try.func90, Try.ntmps90
  go_wp2_with (first
    | (go_at_call 80; (with_reducible refine (checkAll_two (fn q) (fd q) (fn r) (fd r) _ _ (by simp [go_sem]) (by simp [go_sem]) (by simp [go_sem]) (by simp [go_sem])).mono ?_); rintro e w1 ⟨rfl, hb⟩; obtain ⟨hc, hf⟩ := bcell hb; (try simp only [World.heap_drewN] at hc hf); (try simp only [heap_drew] at hc hf); have hz := hb.size; (try simp at hz); try (have hz0 : w.heap.size < w1.heap.size := by omega); try (have hz1 : w.heap.size + 1 < w1.heap.size := by omega); try (have hz2 : w.heap.size + 1 + 1 < w1.heap.size := by omega); try (have hz3 : w.heap.size + 1 + 1 + 1 < w1.heap.size := by omega); try (have hz4 : w.heap.size + 1 + 1 + 1 + 1 < w1.heap.size := by omega); try (have hz5 : w.heap.size + 1 + 1 + 1 + 1 + 1 < w1.heap.size := by omega))
    | (go_at_call 113; (with_reducible refine (HC.out _).mono ?_); rintro e w1 ⟨rfl, hb⟩; obtain ⟨hc, hf⟩ := bcell hb; (try simp only [World.heap_drewN] at hc hf); (try simp only [heap_drew] at hc hf); have hz := hb.size; (try simp at hz); try (have hz0 : w.heap.size < w1.heap.size := by omega); try (have hz1 : w.heap.size + 1 < w1.heap.size := by omega); try (have hz2 : w.heap.size + 1 + 1 < w1.heap.size := by omega); try (have hz3 : w.heap.size + 1 + 1 + 1 < w1.heap.size := by omega); try (have hz4 : w.heap.size + 1 + 1 + 1 + 1 < w1.heap.size := by omega); try (have hz5 : w.heap.size + 1 + 1 + 1 + 1 + 1 < w1.heap.size := by omega)))
  exact bodyPost_ret (v := .tuple #[.agg #[.int .i64 (rn (q - r)), .int .i64 (rd (q - r))], .int .i64 (re (q - r))]) (by simp only [results, Try.results90]; go_simp) rfl ⟨rfl, by (repeat' (first | (with_reducible exact Below.refl _ _) | (with_reducible assumption) | (with_reducible refine belowThru ?_ (by assumption)) | (with_reducible refine belowAlloc ?_) | (with_reducible refine Below.setCell ?_ (by first | omega | (simp; done) | (simp; omega)) _) | (with_reducible refine Below.drew ?_) | (with_reducible refine below_drewN ?_ _)))⟩

end Go.Proofs.Ytdimmnoflenfhaa
/-
  Layer 5: the bright place that is met first, by the code.
-/
namespace Go.Proofs.Ytdimmnoflenfhaa
open Go.RowKit Go.Shelf
set_option linter.unusedVariables false
set_option linter.unusedSimpArgs false

attribute [local go_sem] Oper.semAt_some

/-- What Make returns. -/
def mA (n d : Int) : Int := if d = 0 then 0 else rn (mkR n d)
def mB (n d : Int) : Int := if d = 0 then 0 else rd (mkR n d)
def mE (n d : Int) : Int := if d = 0 then 10 else re (mkR n d)
theorem make_any (n d : Int) (n1 : -9223372036854775808 ≤ n) (n2 : n ≤ 9223372036854775807) (d1 : -9223372036854775808 ≤ d) (d2 : d ≤ 9223372036854775807) (w : World) :
    Calls Try.prog 45 #[.int .i64 n, .int .i64 d] w fun e w' => e = .returned (.tuple #[.agg #[.int .i64 (mA n d), .int .i64 (mB n d)], .int .i64 (mE n d)]) ∧ Below w.heap.size w w' := by
  unfold mA mB mE
  by_cases h : d = 0
  · subst h
    rw [if_pos rfl, if_pos rfl, if_pos rfl]
    exact make_zero n w
  · rw [if_neg h, if_neg h, if_neg h]
    exact make_q n d w n1 n2 d1 d2 h

theorem alloc6 (w : World) (c0 : Array Value) (t0 : TypeId) (c1 : Array Value) (t1 : TypeId) (c2 : Array Value) (t2 : TypeId) (c3 : Array Value) (t3 : TypeId) (c4 : Array Value) (t4 : TypeId) (c5 : Array Value) (t5 : TypeId) :
    ∃ W0, (((((w.alloc (.cells c0 t0)).alloc (.cells c1 t1)).alloc (.cells c2 t2)).alloc (.cells c3 t3)).alloc (.cells c4 t4)).alloc (.cells c5 t5) = W0 ∧ Blk W0 w.heap.size c0 t0 ∧ Blk W0 (w.heap.size + 1) c1 t1 ∧ Blk W0 (w.heap.size + 1 + 1) c2 t2 ∧ Blk W0 (w.heap.size + 1 + 1 + 1) c3 t3 ∧ Blk W0 (w.heap.size + 1 + 1 + 1 + 1) c4 t4 ∧ Blk W0 (w.heap.size + 1 + 1 + 1 + 1 + 1) c5 t5 ∧ Below w.heap.size w W0 ∧ W0.heap.size = w.heap.size + 1 + 1 + 1 + 1 + 1 + 1 :=
  ⟨_, rfl, Blk.alloc (Blk.alloc (Blk.alloc (Blk.alloc (Blk.alloc (Blk.new rfl))))), Blk.alloc (Blk.alloc (Blk.alloc (Blk.alloc (Blk.new (by simp))))), Blk.alloc (Blk.alloc (Blk.alloc (Blk.new (by simp)))), Blk.alloc (Blk.alloc (Blk.new (by simp))), Blk.alloc (Blk.new (by simp)), Blk.new (by simp), by (repeat' (first | (with_reducible exact Below.refl _ _) | (with_reducible assumption) | (with_reducible refine belowThru ?_ (by assumption)) | (with_reducible refine belowAlloc ?_) | (with_reducible refine Below.setCell ?_ (by first | omega | (simp; done) | (simp; omega)) _) | (with_reducible refine Below.drew ?_) | (with_reducible refine below_drewN ?_ _))), by simp⟩
theorem alloc3 (w : World) (c0 : Array Value) (t0 : TypeId) (c1 : Array Value) (t1 : TypeId) (c2 : Array Value) (t2 : TypeId) :
    ∃ W0, ((w.alloc (.cells c0 t0)).alloc (.cells c1 t1)).alloc (.cells c2 t2) = W0 ∧ Blk W0 w.heap.size c0 t0 ∧ Blk W0 (w.heap.size + 1) c1 t1 ∧ Blk W0 (w.heap.size + 1 + 1) c2 t2 ∧ Below w.heap.size w W0 ∧ W0.heap.size = w.heap.size + 1 + 1 + 1 :=
  ⟨_, rfl, Blk.alloc (Blk.alloc (Blk.new rfl)), Blk.alloc (Blk.new (by simp)), Blk.new (by simp), by (repeat' (first | (with_reducible exact Below.refl _ _) | (with_reducible assumption) | (with_reducible refine belowThru ?_ (by assumption)) | (with_reducible refine belowAlloc ?_) | (with_reducible refine Below.setCell ?_ (by first | omega | (simp; done) | (simp; omega)) _) | (with_reducible refine Below.drew ?_) | (with_reducible refine below_drewN ?_ _))), by simp⟩

theorem Blk.own {X Y : World} {b : Nat} {c : Array Value} {t : TypeId} {row : Option Nat} (h : Blk X b c t) (hg : X.grownBy Y row) (hr : ∀ r, row = some r → ∃ o : Obj, X.heap[r]? = some o ∧ o.isCells = false) : Blk Y b c t :=
  (hg.block b h.lt (fun e => by
    obtain ⟨o, ho, hc⟩ := hr b e.symm
    have : X.heap[b]? = _ := h
    rw [this] at ho; cases ho; cases hc)).trans h
theorem KeepsFrom.of_below {B : Nat} {W W' : World} (h : Below W.heap.size W W') : KeepsFrom B W W' :=
  ⟨h.size, fun k o _ hk _ => (h.block k (Array.getElem?_eq_some_iff.1 hk).1).trans hk⟩
/-- What the code asks Make for at a place of a way. -/
def nArg (p s t : Int) (q : List Int) (k : Nat) : Int × Int :=
  if k = 0 then (p, 1) else ((p + s * (k : Int)) * (q[k]?.getD 0 - q[k - 1]?.getD 0) - s * (q[k]?.getD 0 - t), q[k]?.getD 0 - q[k - 1]?.getD 0)
def nA (p s t : Int) (q : List Int) : Option Nat → Int
  | none => 0
  | some k => mA (nArg p s t q k).1 (nArg p s t q k).2
def nB (p s t : Int) (q : List Int) : Option Nat → Int
  | none => 0
  | some k => mB (nArg p s t q k).1 (nArg p s t q k).2
def nE (p s t : Int) (q : List Int) : Option Nat → Int
  | none => 6
  | some k => mE (nArg p s t q k).1 (nArg p s t q k).2
theorem fb_none_of {t : Int} {q : List Int} {xs : List (Wel q)} (h : WAll q.length xs) (hd : ∀ y ∈ xs, y.1.2 < t) : fb t q = none := by
  rw [fb_none]
  intro u hu
  obtain ⟨k, hk⟩ := List.getElem?_of_mem hu
  have hl := (List.getElem?_eq_some_iff.1 hk).1
  have hm : k ∈ xs.map (fun x => x.1.1) := by rw [h]; exact List.mem_range.2 hl
  obtain ⟨x, hx, e⟩ := List.mem_map.1 hm
  have hx2 := x.2
  rw [e, hk] at hx2
  have := hd x hx
  rw [← Option.some.inj hx2] at this; exact this
theorem fb_some_of {t : Int} {q : List Int} {pre : List (Wel q)} {x : Wel q} {k : Nat} (h : WAll k (pre ++ [x])) (hd : ∀ y ∈ pre, y.1.2 < t) (hx : t ≤ x.1.2) : fb t q = some x.1.1 := by
  have hl := WAll.length h
  rw [List.length_append, List.length_singleton] at hl
  subst hl
  unfold WAll at h
  rw [List.map_append, List.range_succ] at h
  have h2 := List.append_inj' h rfl
  have e : x.1.1 = pre.length := by simpa using h2.2
  refine fb_some.2 ⟨x.1.2, x.2, hx, fun i hi u hu => ?_⟩
  rw [e] at hi
  have hm : i ∈ pre.map (fun x => x.1.1) := by rw [h2.1]; exact List.mem_range.2 hi
  obtain ⟨y, hy, ey⟩ := List.mem_map.1 hm
  have hy2 := y.2
  rw [ey, hu] at hy2
  have := hd y hy
  rw [← Option.some.inj hy2] at this; exact this

set_option maxRecDepth 100000 in
set_option maxHeartbeats 4000000 in
theorem near_in (m : Nat) (hm : 3 ≤ m) (t : Int) (p : Nat) (s : Int) (a : Option Addr) (n c : Nat) (zs q : List Int) (hz : okP zs) (hl : zs.length = n) (ht : okT t) (hs : s = 1 ∨ s = -1) (hp : p < n) (hw : IsWay zs n p s q) (w : World) (hR : Row w a n (iv zs)) :
    CallsIn Fence.wide m Try.prog 41 #[.slice a n c, .int .i64 t, .int .i64 p, .int .i64 s] w fun e w' => e = .returned (.tuple #[.agg #[.int .i64 (nA p s t q (fb t q)), .int .i64 (nB p s t q (fb t q))], .int .i64 (nE p s t q (fb t q))]) ∧ Below w.heap.size w w' := by
  have hn64 : n ≤ 64 := by rw [← hl]; exact hz.1.2
  have HC : Hid (∀ (a : Option Addr) (c : Nat) (w : World), Row w a n (iv zs) → Calls Try.prog 26 #[.slice a n c] w fun e w' => e = .returned (.int .i64 0) ∧ Below w.heap.size w w') := fun a c w hR => by
    have := ckP_any a n c zs (by unfold maxLen; omega) w hR
    rwa [ckP_ok hz] at this
  have HT : Hid (∀ w, Calls Try.prog 69 #[.int .i64 t] w fun e w' => e = .returned (.bool true) ∧ w = w') := fun w => by
    have := isThr_any t w
    rwa [decide_eq_true ht] at this
  have HI := Lib.hid (gwithin_yes (p : Int) 0 ((n : Int) - 1) (by omega) (by omega))
  have hw1 : IntKind.i64.wrap ((n : Int) - 1) = (n : Int) - 1 := IntWalk.i64_in _ (by omega)
  have HZ := Lib.hid hz; have HL := Lib.hid hl; have HW := Lib.hid hw; have HR := Lib.hid hR; have HTh := Lib.hid ht
  have pt0 := ht.1; have pt1 := ht.2
  refine callsIn_of_wp_marks Try.func41 rfl trivial ?_ rfl
  simp only [Try.ntmps41, List.size_toArray, List.length_cons, List.length_nil, Nat.reduceAdd, Nat.reduceSub, Array.replicate_succ, Array.replicate_zero, List.push_toArray, List.append_toArray, List.nil_append, List.cons_append]
  have n1 : 1 ≤ m := by omega
  have hmx : Try.prog.follows .mixedOrders = true := by kernel_rfl
  gi_wp2
  (try (refine ⟨trivial, ?_⟩))
  gi_at_call 26
  obtain ⟨W0, hW0, k0, k1, k2, k3, k4, k5, hB0, hsz⟩ := alloc6 w #[.slice a n c] 27 #[.int .i64 t] 3 #[.int .i64 p] 3 #[.int .i64 s] 3 #[.int .i64 0, .int .i64 0] 23 #[.int .i64 0] 24
  rw [hW0]
  clear hW0
  refine (callsIn_wide.2 (HC.out _ _ _ (hR.later hB0))).mono ?_
  rintro e wC ⟨rfl, hb⟩
  have hBC := belowThru hB0 hb
  replace k0 := Blk.later hb k0
  obtain ⟨a0, b0⟩ := k0.read
  replace k1 := Blk.later hb k1
  obtain ⟨a1, b1⟩ := k1.read
  replace k2 := Blk.later hb k2
  obtain ⟨a2, b2⟩ := k2.read
  replace k3 := Blk.later hb k3
  obtain ⟨a3, b3⟩ := k3.read
  replace k4 := Blk.later hb k4
  obtain ⟨a4, b4⟩ := k4.read
  replace k5 := Blk.later hb k5
  obtain ⟨a5, b5⟩ := k5.read
  replace hsz : w.heap.size + 1 + 1 + 1 + 1 + 1 + 1 ≤ wC.heap.size := by (have := hb.size; omega)
  clear hb hB0
  gi_wp2_with (first
    | ((try (refine ⟨trivial, ?_⟩)); gi_at_call 69; refine (callsIn_wide.2 (HT.out _)).mono ?_; rintro e w' ⟨rfl, rfl⟩)
    | ((try (refine ⟨trivial, ?_⟩)); gi_at_call 59; refine (callsIn_wide.2 (HI.out _)).mono ?_; rintro e w' ⟨rfl, rfl⟩)
    | ((try (refine ⟨trivial, ?_⟩)); gi_at_call 73; refine (callsIn_wide.2 (along_any _ _ _ _ _ _)).mono ?_; rintro e w' ⟨rfl, rfl⟩))
  obtain ⟨W0, hW0, q0, q1, q2, hB1, hsz1⟩ := alloc3 wC #[.slice a n c] 27 #[.int .i64 p] 3 #[.int .i64 s] 3
  rw [hW0]
  clear hW0
  replace k0 := Blk.later hB1 k0
  clear a0 b0
  replace k1 := Blk.later hB1 k1
  clear a1 b1
  replace k2 := Blk.later hB1 k2
  clear a2 b2
  replace k3 := Blk.later hB1 k3
  clear a3 b3
  replace k4 := Blk.later hB1 k4
  clear a4 b4
  replace k5 := Blk.later hB1 k5
  clear a5 b5
  have hBW : Below w.heap.size w W0 := belowThru hBC hB1
  have hzs : w.heap.size + 1 + 1 + 1 + 1 + 1 + 1 ≤ W0.heap.size := by omega
  refine wpIn_rangeFunc_ownG rfl n1 (gf := 101) (lb := #[.pointer (some ⟨wC.heap.size + 1, 0, none⟩), .pointer (some ⟨wC.heap.size, 0, none⟩), .pointer (some ⟨wC.heap.size + 1 + 1, 0, none⟩)]) rfl trivial (enters_of Try.func101 (by kernel_rfl) rfl)
    (along_stops (m - 1) (wC.heap.size + 1) wC.heap.size (wC.heap.size + 1 + 1) n c a p s zs q (by omega) hn64 hs (by omega) (by omega) hw W0 ⟨q1.cells 0, q0.cells 0, q2.cells 0⟩ (hR.later hBW))
    belowK_t (belowK_b (Nat.le_refl _)) (Below.refl _ _) (fun _ => rfl)
    (fun pre W => Hid (∀ y ∈ pre, y.1.2 < t) ∧ (Blk W (w.heap.size) #[.slice a n c] 27 ∧ Blk W (w.heap.size + 1) #[.int .i64 t] 3 ∧ Blk W (w.heap.size + 1 + 1) #[.int .i64 p] 3 ∧ Blk W (w.heap.size + 1 + 1 + 1) #[.int .i64 s] 3 ∧ Blk W (w.heap.size + 1 + 1 + 1 + 1) #[.int .i64 0, .int .i64 0] 23 ∧ Blk W (w.heap.size + 1 + 1 + 1 + 1 + 1) #[.int .i64 0] 24) ∧ Below w.heap.size w W)
    (fun c0 pre W => c0 = .ret ∧ ∃ pre0 x, pre = pre0 ++ [x] ∧ Hid (∀ y ∈ pre0, y.1.2 < t) ∧ t ≤ x.1.2 ∧ Blk W (w.heap.size + 1 + 1 + 1 + 1) #[.int .i64 (mA (nArg p s t q x.1.1).1 (nArg p s t q x.1.1).2), .int .i64 (mB (nArg p s t q x.1.1).1 (nArg p s t q x.1.1).2)] 23 ∧ Blk W (w.heap.size + 1 + 1 + 1 + 1 + 1) #[.int .i64 (mE (nArg p s t q x.1.1).1 (nArg p s t q x.1.1).2)] 24 ∧ Below w.heap.size w W)
    (fun s X Y row hs hg hr => by
      obtain ⟨hd, ⟨c0, c1, c2, c3, c4, c5⟩, hb⟩ := hs
      have hr' := fun r e => (hr r e).2
      exact ⟨hd, ⟨c0.own hg hr', c1.own hg hr', c2.own hg hr', c3.own hg hr', c4.own hg hr', c5.own hg hr'⟩, ownFrom_below (β := Unit) (Nat.le_refl _) hBW.size () X Y row hb hg hr⟩)
    (fun c0 s X Y row hs hg hr => by
      obtain ⟨hc, pre0, x, he, hd, hx, c4, c5, hb⟩ := hs
      have hr' := fun r e => (hr r e).2
      exact ⟨hc, pre0, x, he, hd, hx, c4.own hg hr', c5.own hg hr', ownFrom_below (β := Unit) (Nat.le_refl _) hBW.size () X Y row hb hg hr⟩)
    ⟨(show ∀ y ∈ ([] : List (Wel q)), y.1.2 < t from fun y hy => by cases hy), ⟨k0, k1, k2, k3, k4, k5⟩, hBW⟩
    (fun x => { tmps := #[.slice a n c, .int .i64 t, .int .i64 p, .int .i64 s, .pointer (some ⟨w.heap.size, 0, none⟩), .pointer (some ⟨w.heap.size + 1, 0, none⟩), .pointer (some ⟨w.heap.size + 1 + 1, 0, none⟩), .pointer (some ⟨w.heap.size + 1 + 1 + 1, 0, none⟩), .pointer (some ⟨w.heap.size + 1 + 1 + 1 + 1, 0, none⟩), .pointer (some ⟨w.heap.size + 1 + 1 + 1 + 1 + 1, 0, none⟩), .int .i64 0, .int .i64 ((p : Int) + s * (x.1.1 : Int)), .int .i64 x.1.2, undef, .slice a n c, .int .i64 0, .int .i64 0, .bool false, undef, undef, .int .i64 t, .bool true, .bool false, .bool false, .int .i64 p, .slice a n c, .int .i64 n, .int .i64 ((n : Int) - 1), .bool true, .bool false, .bool false, undef, .slice a n c, .int .i64 p, .int .i64 s, .func (.func 101) #[] #[.pointer (some ⟨wC.heap.size + 1, 0, none⟩), .pointer (some ⟨wC.heap.size, 0, none⟩), .pointer (some ⟨wC.heap.size + 1 + 1, 0, none⟩)], .int .i64 ((p : Int) + s * (x.1.1 : Int)), .int .i64 x.1.2, undef, undef, undef, undef, undef, undef, undef, undef, undef, undef, undef, undef, undef, undef, undef, undef, undef, undef, undef, undef, undef, undef, undef, undef, undef, undef, undef, undef, undef, undef, undef, undef], defers := [] }) ?assign ?body ?done ?stop
  case assign =>
    intro l x W K hK
    simp only [weEnc]
    gi_wp2
    exact hK
  case body =>
    rintro l pre ⟨⟨k, v⟩, hv⟩ W ⟨hd, ⟨k0, k1, k2, k3, k4, k5⟩, hB⟩ hlt
    have HD := Lib.hid hd.out
    have hv8 := HZ.out.2
    obtain ⟨j, hj, hjn, hzj⟩ := HW.out.1 k v hv
    have hv8 := HZ.out.2 v (List.mem_of_getElem? hzj)
    obtain ⟨a0, b0⟩ := k0.read; obtain ⟨a1, b1⟩ := k1.read; obtain ⟨a2, b2⟩ := k2.read; obtain ⟨a3, b3⟩ := k3.read; obtain ⟨a4, b4⟩ := k4.read; obtain ⟨a5, b5⟩ := k5.read
    dsimp only at hlt ⊢
    have n2 : 1 ≤ m - 1 - 1 := by omega
    have hv0 := hv8.1; have hv1 := hv8.2
    rw [hj]
    by_cases hvt : v < t
    · clear hw hv8
      gi_wp2
      refine ⟨KeepsFrom.of_below (Below.refl _ _), Below.refl _ _, ?_, ⟨k0, k1, k2, k3, k4, k5⟩, hB⟩
      show ∀ y ∈ pre ++ [⟨(k, v), hv⟩], y.1.2 < t
      intro y hy
      rcases List.mem_append.1 hy with h | h
      · exact HD.out y h
      · rw [List.mem_singleton] at h; subst h; exact hvt
    · have hvt2 : t ≤ v := by omega
      by_cases hk : k = 0
      · subst hk
        have hjp : j = p := by
          have : (p : Int) + s * ((0 : Nat) : Int) = p := by simp
          omega
        subst hjp
        have hN : Hid (nArg j s t q 0 = ((j : Int), 1)) := if_pos rfl
        have HM := Lib.hid (make_any (j : Int) 1 (by omega) (by omega) (by omega) (by omega))
        clear hw hv8 hvt
        as_aux_lemma =>
          gi_wp2_with ((try (refine ⟨trivial, ?_⟩)); gi_at_call 45; refine (CallsIn.inRound l (callsIn_wide.2 (HM.out _))).mono ?_; rintro e wA ⟨rfl, hA⟩; have k4' := Blk.later hA k4; have k5' := Blk.later hA k5; obtain ⟨a4', b4'⟩ := k4'.read; obtain ⟨a5', b5'⟩ := k5'.read)
          refine ⟨?_, rfl, pre, ⟨(0, v), hv⟩, rfl, HD, hvt2, ?_, ?_, ?_⟩
          · refine KeepsFrom.trans ?_ ((KeepsOthers.setCell _ _ _).from _)
            refine KeepsFrom.trans ?_ ((KeepsOthers.setCell _ _ _).from _)
            refine KeepsFrom.trans ?_ ((KeepsOthers.setCell _ _ _).from _)
            exact KeepsFrom.of_below hA
          · rw [show nArg j s t q (⟨(0, v), hv⟩ : Wel q).1.1 = _ from hN.out]
            exact Blk.other (Blk.set (Blk.set k4')) (by simp)
          · rw [show nArg j s t q (⟨(0, v), hv⟩ : Wel q).1.1 = _ from hN.out]
            exact Blk.set (Blk.other (Blk.other k5' (by simp)) (by simp))
          · (repeat' (first | (with_reducible exact Below.refl _ _) | (with_reducible assumption) | (with_reducible refine belowThru ?_ (by assumption)) | (with_reducible refine belowAlloc ?_) | (with_reducible refine Below.setCell ?_ (by first | omega | (simp; done) | (simp; omega)) _) | (with_reducible refine Below.drew ?_) | (with_reducible refine below_drewN ?_ _)))
      · obtain ⟨k', rfl⟩ : ∃ k', k = k' + 1 := ⟨k - 1, by omega⟩
        have hk2 : k' < q.length := by have := (List.getElem?_eq_some_iff.1 hv).1; omega
        obtain ⟨u, hu⟩ : ∃ u, q[k']? = some u := ⟨_, List.getElem?_eq_getElem hk2⟩
        obtain ⟨i, hi, hin, hzi⟩ := HW.out.1 k' u hu
        have hu8 := HZ.out.2 u (List.mem_of_getElem? hzi)
        obtain ⟨bb, oo, z, rfl, hbb, hz2, cz⟩ := HR.out.int hin
        rw [hzi] at hz2; cases hz2
        have cz := cell_later hB cz
        have hji : (j : Int) = (i : Int) + s := by rw [← hj, ← hi]; push_cast; rw [Int.mul_add, Int.mul_one, Int.add_assoc]
        have hjp : ¬ (j : Int) = (p : Int) := by
          rw [← hj]
          rcases hs with rfl | rfl <;> push_cast <;> omega
        have hjp2 : ¬ j = p := by omega
        have hjp3 : ((j : Int) == (p : Int)) = false := beq_false_of_ne hjp
        have i0 : (0 : Int) ≤ (i : Int) := by omega
        have i1 : (i : Int) < (n : Int) := by omega
        have e1 : IntKind.i64.wrap ((j : Int) - s) = (i : Int) := by rw [hji, Int.add_sub_cancel]; exact IntWalk.i64_in _ (by omega)
        obtain ⟨R, hRR⟩ : ∃ R, v - u = R := ⟨_, rfl⟩
        obtain ⟨T, hTT⟩ : ∃ T, v - t = T := ⟨_, rfl⟩
        have e2 : IntKind.i64.wrap (v - u) = R := by rw [hRR]; exact IntWalk.i64_in _ (by omega)
        have e3 : IntKind.i64.wrap (v - t) = T := by rw [hTT]; exact IntWalk.i64_in _ (by omega)
        have m1 := mul_bound (j : Int) R 64 255 (by omega) (by omega) (by omega) (by omega)
        have m2 := mul_bound s T 1 255 (by omega) (by omega) (by omega) (by omega)
        obtain ⟨M, hM⟩ : ∃ M, (j : Int) * R = M := ⟨_, rfl⟩
        obtain ⟨L, hL⟩ : ∃ L, s * T = L := ⟨_, rfl⟩
        rw [hM] at m1; rw [hL] at m2
        have e4 : IntKind.i64.wrap ((j : Int) * R) = M := by rw [hM]; exact IntWalk.i64_in _ (by omega)
        have e5 : IntKind.i64.wrap (s * T) = L := by rw [hL]; exact IntWalk.i64_in _ (by omega)
        have e6 : IntKind.i64.wrap (M - L) = M - L := IntWalk.i64_in _ (by omega)
        have hN : Hid (nArg p s t q (k' + 1) = (M - L, R)) := by
          show nArg p s t q (k' + 1) = _
          unfold nArg
          rw [if_neg (by omega), Nat.add_sub_cancel, hv, hu, hj]
          simp only [Option.getD_some]
          rw [hRR, hTT, hM, hL]
        have HM := Lib.hid (make_any (M - L) R (by omega) (by omega) (by omega) (by omega))
        clear hw hv8 hvt hRR hTT hM hL hji m1 m2 hjp hjp2 hu8
        as_aux_lemma =>
          gi_wp2_with ((try (refine ⟨trivial, ?_⟩)); gi_at_call 45; refine (CallsIn.inRound l (callsIn_wide.2 (HM.out _))).mono ?_; rintro e wA ⟨rfl, hA⟩; have k4' := Blk.later hA k4; have k5' := Blk.later hA k5; obtain ⟨a4', b4'⟩ := k4'.read; obtain ⟨a5', b5'⟩ := k5'.read)
          refine ⟨?_, rfl, pre, ⟨(k' + 1, v), hv⟩, rfl, HD, hvt2, ?_, ?_, ?_⟩
          · refine KeepsFrom.trans ?_ ((KeepsOthers.setCell _ _ _).from _)
            refine KeepsFrom.trans ?_ ((KeepsOthers.setCell _ _ _).from _)
            refine KeepsFrom.trans ?_ ((KeepsOthers.setCell _ _ _).from _)
            exact KeepsFrom.of_below hA
          · rw [show nArg p s t q (⟨(k' + 1, v), hv⟩ : Wel q).1.1 = _ from hN.out]
            exact Blk.other (Blk.set (Blk.set k4')) (by simp)
          · rw [show nArg p s t q (⟨(k' + 1, v), hv⟩ : Wel q).1.1 = _ from hN.out]
            exact Blk.set (Blk.other (Blk.other k5' (by simp)) (by simp))
          · (repeat' (first | (with_reducible exact Below.refl _ _) | (with_reducible assumption) | (with_reducible refine belowThru ?_ (by assumption)) | (with_reducible refine belowAlloc ?_) | (with_reducible refine Below.setCell ?_ (by first | omega | (simp; done) | (simp; omega)) _) | (with_reducible refine Below.drew ?_) | (with_reducible refine below_drewN ?_ _)))
  case done =>
    rintro D xs W hD hall ⟨hd, ⟨k0, k1, k2, k3, k4, k5⟩, hB⟩ hK
    have hf : fb t q = none := fb_none_of hall hd.out
    obtain ⟨a4, b4⟩ := k4.read; obtain ⟨a5, b5⟩ := k5.read
    have hK := (((KeepsOthers.setCell W ⟨w.heap.size + 1 + 1 + 1 + 1, 0, none⟩ (.int .i64 0)).trans (KeepsOthers.setCell _ ⟨w.heap.size + 1 + 1 + 1 + 1, 1, none⟩ (.int .i64 0))).trans (KeepsOthers.setCell _ ⟨w.heap.size + 1 + 1 + 1 + 1 + 1, 0, none⟩ (.int .i64 6))).same D _ hK rfl
    have k4f : Blk (((W.setCell ⟨w.heap.size + 1 + 1 + 1 + 1, 0, none⟩ (.int .i64 0)).setCell ⟨w.heap.size + 1 + 1 + 1 + 1, 1, none⟩ (.int .i64 0)).setCell ⟨w.heap.size + 1 + 1 + 1 + 1 + 1, 0, none⟩ (.int .i64 6)) (w.heap.size + 1 + 1 + 1 + 1) #[.int .i64 0, .int .i64 0] 23 := Blk.other (Blk.set (Blk.set k4)) (by simp)
    have k5f : Blk (((W.setCell ⟨w.heap.size + 1 + 1 + 1 + 1, 0, none⟩ (.int .i64 0)).setCell ⟨w.heap.size + 1 + 1 + 1 + 1, 1, none⟩ (.int .i64 0)).setCell ⟨w.heap.size + 1 + 1 + 1 + 1 + 1, 0, none⟩ (.int .i64 6)) (w.heap.size + 1 + 1 + 1 + 1 + 1) #[.int .i64 6] 24 := Blk.set (Blk.other (Blk.other k5 (by simp)) (by simp))
    replace hB : Below w.heap.size w (((W.setCell ⟨w.heap.size + 1 + 1 + 1 + 1, 0, none⟩ (.int .i64 0)).setCell ⟨w.heap.size + 1 + 1 + 1 + 1, 1, none⟩ (.int .i64 0)).setCell ⟨w.heap.size + 1 + 1 + 1 + 1 + 1, 0, none⟩ (.int .i64 6)) := by (repeat' (first | (with_reducible exact Below.refl _ _) | (with_reducible assumption) | (with_reducible refine belowThru ?_ (by assumption)) | (with_reducible refine belowAlloc ?_) | (with_reducible refine Below.setCell ?_ (by first | omega | (simp; done) | (simp; omega)) _) | (with_reducible refine Below.drew ?_) | (with_reducible refine below_drewN ?_ _)))
    gi_wp2
    obtain ⟨Wf, hWf⟩ : ∃ Wf, (((W.setCell ⟨w.heap.size + 1 + 1 + 1 + 1, 0, none⟩ (.int .i64 0)).setCell ⟨w.heap.size + 1 + 1 + 1 + 1, 1, none⟩ (.int .i64 0)).setCell ⟨w.heap.size + 1 + 1 + 1 + 1 + 1, 0, none⟩ (.int .i64 6)) = Wf := ⟨_, rfl⟩
    rw [hWf] at k4f k5f hK hB ⊢
    clear hWf k4 k5 a4 b4 a5 b5
    have k4 := k4f; have k5 := k5f
    have hb5 := k5.lt
    obtain ⟨f4, g4⟩ := (k4.own (grownBy_putObj' Wf D (.deferred none)) (fun r e => by cases e; exact ⟨_, hK, rfl⟩)).read
    obtain ⟨f5, g5⟩ := (k5.own (grownBy_putObj' Wf D (.deferred none)) (fun r e => by cases e; exact ⟨_, hK, rfl⟩)).read
    refine ⟨by simp, .inl ⟨_, _, rfl, run_takeDeferred hK, ?_⟩⟩
    refine ⟨.tuple #[.agg #[.int .i64 (nA p s t q (fb t q)), .int .i64 (nB p s t q (fb t q))], .int .i64 (nE p s t q (fb t q))], ?_, rfl, hB.trans (belowK_b (w := w) (Nat.le_refl _) Wf D _ _ (by omega) hK rfl rfl)⟩
    rw [hf]
    simp only [results, Try.results41]
    go_simp
    exact ⟨⟨rfl, rfl⟩, rfl⟩
  case stop =>
    rintro D c0 pre W hD ⟨kk, hall⟩ ⟨rfl, pre0, x, rfl, hd, hx, k4, k5, hB⟩ hK
    have hf : fb t q = some x.1.1 := fb_some_of hall hd.out hx
    gi_wp2
    have hb5 := k5.lt
    obtain ⟨f4, g4⟩ := (k4.own (grownBy_putObj' W D (.deferred none)) (fun r e => by cases e; exact ⟨_, hK, rfl⟩)).read
    obtain ⟨f5, g5⟩ := (k5.own (grownBy_putObj' W D (.deferred none)) (fun r e => by cases e; exact ⟨_, hK, rfl⟩)).read
    refine ⟨by simp, .inl ⟨_, _, rfl, run_takeDeferred hK, ?_⟩⟩
    refine ⟨.tuple #[.agg #[.int .i64 (nA p s t q (fb t q)), .int .i64 (nB p s t q (fb t q))], .int .i64 (nE p s t q (fb t q))], ?_, rfl, hB.trans (belowK_b (w := w) (Nat.le_refl _) W D _ _ (by omega) hK rfl rfl)⟩
    rw [hf]
    simp only [results, Try.results41]
    go_simp
    exact ⟨⟨rfl, rfl⟩, rfl⟩
/-- The way to the end, and the way back to the start. -/
theorem isWay_first (zs : List Int) (p : Nat) (hl : zs.length ≤ 64) : IsWay zs zs.length p 1 (zs.drop p) := by
  refine ⟨fun k v h => ⟨p + k, by push_cast; omega, ?_, by rw [drop_get] at h; exact h⟩, ?_, by rw [List.length_drop]; omega⟩
  · rw [drop_get] at h; exact (List.getElem?_eq_some_iff.1 h).1
  · rw [List.length_drop]; omega
theorem isWay_last (zs : List Int) (p : Nat) (hp : p < zs.length) (hl : zs.length ≤ 64) : IsWay zs zs.length p (-1) (zs.take (p + 1)).reverse := by
  refine ⟨fun k v h => ?_, ?_, by rw [back_len _ _ hp]; omega⟩
  · rw [back_get _ _ _ hp] at h
    split at h
    · exact ⟨p - k, by omega, by omega, h⟩
    · cases h
  · rw [back_len _ _ hp]; omega
end Go.Proofs.Ytdimmnoflenfhaa
