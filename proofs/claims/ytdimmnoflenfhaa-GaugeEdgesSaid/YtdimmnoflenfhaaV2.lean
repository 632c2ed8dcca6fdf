/-
  The texts that the laws of this seat share, merged: part 2.
-/
import Derived.BigQuiet
import Derived.Deep.CutBlock
import Derived.Deep.DeepCutAuto
import Derived.Deep.Draws
import Derived.Deep.LoopGhost
import Derived.Deep.QuietTactic
import Derived.Deep.RegionHeld3
import Derived.IntWalk
import Derived.Laws.AppendOwn
import Derived.Laws.Bits64b
import Derived.Lib.Hide
import Derived.Lib.ItoaNum
import Derived.LoopIn
import Derived.LoopNIn
import Derived.LoopTactic
import Derived.OneCell
import Derived.Orders
import Derived.OwnWalkIn
import Derived.RangeFuncBound
import Derived.RangeFuncCalls
import Derived.RangeFuncLeaves
import Derived.RangeFuncNested
import Derived.Shelf.Abstract
import Derived.Shelf.AbstractIn
import Derived.Shelf.Bits.Mul64
import Derived.Shelf.RegionOpen
import Derived.Shelf.Small.Bits
import Derived.Shelf.Spec.BitsCarry
import Derived.Shelf.Strconv.Itoa0
import Derived.TacticsInMore
import Derived.Test.YtdimmnoflenfhaaProg
import Derived.WalkKit
import Derived.WalkLawsBesides
import Derived.WalkSmall
import Derived.WalkSpells
import Derived.Test.YtdimmnoflenfhaaV1
/-
  Layer 1: sums and differences of valid fractions as rational numbers; products.
-/
namespace Go.Proofs.Ytdimmnoflenfhaa
open Go.RowKit

theorem tdiv_bound (t s M : Int) (h : -M < t ∧ t < M) : -M < t.tdiv s ∧ t.tdiv s < M := by
  have h1 : (t.tdiv s).natAbs ≤ t.natAbs := by
    rw [Int.natAbs_tdiv]; exact Nat.div_le_self _ _
  omega

/-- The numbers on the way to a sum or a difference. -/
theorem way_bounds (q r : Rat) (hq : fits q) (hr : fits r) (g l m : Int) (hg : g = gcdI (fd q) (fd r)) (hl : l = fd q / g) (hm : m = fd r / g) :
    1 ≤ g ∧ g ≤ 4611686018427387903 ∧ 1 ≤ l ∧ l ≤ 4611686018427387903 ∧ 1 ≤ m ∧ m ≤ 4611686018427387903 ∧
    (-21267647932558653957237540927630737409 ≤ fn q * m ∧ fn q * m ≤ 21267647932558653957237540927630737409) ∧ (-21267647932558653957237540927630737409 ≤ fn r * l ∧ fn r * l ≤ 21267647932558653957237540927630737409) ∧
    ∀ t s : Int, s = gcdI g ((t.natAbs : Int) % g) → 1 ≤ s ∧ s ≤ 4611686018427387903 ∧ 1 ≤ fd r / s ∧ fd r / s ≤ 4611686018427387903 ∧ l * (fd r / s) ≤ 21267647932558653957237540927630737409 := by
  have fq := hq; have fr' := hr; unfold fits at fq fr'; obtain ⟨q1, q2, q3⟩ := fq; obtain ⟨r1, r2, r3⟩ := fr'; have q4 := fd_pos q; have r4 := fd_pos r
  have g1 : 0 < g := by rw [hg]; exact gcdI_pos_left _ _ (by omega)
  have g2 : g ≤ fd q := by rw [hg]; exact gcdI_le_left _ _ (by omega)
  have g3 : g ≤ fd r := by rw [hg]; exact gcdI_le_right _ _ (by omega)
  have bl := div_bounds (fd q) g (by omega) g1 g2
  have bm := div_bounds (fd r) g (by omega) g1 g3
  rw [← hl] at bl
  rw [← hm] at bm
  refine ⟨by omega, by omega, by omega, by omega, by omega, by omega, ?_, ?_, ?_⟩
  · have := mul_bound (fn q) m 4611686018427387903 4611686018427387903 ⟨q1, q2⟩ ⟨by omega, by omega⟩ (by omega) (by omega); omega
  · have := mul_bound (fn r) l 4611686018427387903 4611686018427387903 ⟨r1, r2⟩ ⟨by omega, by omega⟩ (by omega) (by omega); omega
  · intro t s hs
    have s1 : 0 < s := by rw [hs]; exact gcdI_pos_left _ _ g1
    have s2 : s ≤ g := by rw [hs]; exact gcdI_le_left _ _ g1
    have bk := div_bounds (fd r) s (by omega) s1 (by omega)
    have := mul_bound l (fd r / s) 4611686018427387903 4611686018427387903 ⟨by omega, by omega⟩ ⟨by omega, by omega⟩ (by omega) (by omega)
    exact ⟨by omega, by omega, by omega, by omega, by omega⟩

theorem minus_enters : ∀ args w, (callFunc 102 args).run Try.prog w = .ok (.enter 102 args) w := Go.Proofs.enters_of Try.func102 (by kernel_rfl) rfl

theorem combine_minus (q r : Rat) (hq : fits q) (hr : fits r) (w : World) :
    Calls Try.prog 113 #[.agg #[.int .i64 (fn q), .int .i64 (fd q)], .agg #[.int .i64 (fn r), .int .i64 (fd r)], .func (.func 102) #[] #[]] w fun e w' => e = .returned (.tuple #[.agg #[.int .i64 (rn (q - r)), .int .i64 (rd (q - r))], .int .i64 (re (q - r))]) ∧ Below w.heap.size w w' := by
  have fq := hq; have fr' := hr; unfold fits at fq fr'
  have q4 := fd_pos q; have r4 := fd_pos r
  obtain ⟨g, hg⟩ : ∃ g, g = gcdI (fd q) (fd r) := ⟨_, rfl⟩
  obtain ⟨l, hl⟩ : ∃ l, l = fd q / g := ⟨_, rfl⟩
  obtain ⟨m, hm⟩ : ∃ m, m = fd r / g := ⟨_, rfl⟩
  obtain ⟨t, ht⟩ : ∃ t, t = fn q * m - fn r * l := ⟨_, rfl⟩
  obtain ⟨s, hs⟩ : ∃ s, s = gcdI g ((t.natAbs : Int) % g) := ⟨_, rfl⟩
  obtain ⟨b1, b2, b3, b4, b5, b6, b7, b8, b9⟩ := way_bounds q r hq hr g l m hg hl hm
  obtain ⟨c1, c2, c3, c4, c5⟩ := b9 t s hs
  obtain ⟨p1, p2⟩ := sub_parts q r g l t s hg hl (by rw [ht, hm]) hs
  have d1 := tdiv_bound t s 170141183460469231731687303715884105728 ⟨by omega, by omega⟩
  have m0 : 0 ≤ (t.natAbs : Int) % g := Int.emod_nonneg _ (by omega)
  have m1 : (t.natAbs : Int) % g < g := Int.emod_lt_of_pos _ (by omega)
  refine combine_walk q r hq hr 102 g l m t s (fd r / s) _ _ _ w ?_ b1 b2 hl.symm hm.symm b3 b4 b5 b6 rfl c3 c4 ?_ minus_enters (by omega) (by omega) c1 c2 ?_ ?_
  · intro w; rw [hg]; exact divisor_any _ _ (by omega) (by omega) (by omega) (by omega) w
  · intro w; exact fraction_q (q - r) _ _ p1 p2 w d1.1 d1.2 (by omega)
  · intro w
    refine (divisor_any g ((t.natAbs : Int) % g) (by omega) (by omega) (by omega) (by omega) w).mono fun e w' ⟨he, n, hw⟩ => ⟨by rw [he, hs], by rw [hw]; exact below_drewN (Below.refl _ _) n⟩
  · intro w; rw [ht]; exact minus_any _ _ w
end Go.Proofs.Ytdimmnoflenfhaa
/-
  Layer 1: products, quotients, and Make.
-/
namespace Go.Proofs.Ytdimmnoflenfhaa
open Go.RowKit

set_option maxRecDepth 100000 in
set_option maxHeartbeats 4000000 in
theorem make_walk (n d g x y t N M E : Int) (w : World) (n1 : -9223372036854775808 ≤ n) (n2 : n ≤ 9223372036854775807) (d1 : -9223372036854775808 ≤ d) (d2 : d ≤ 9223372036854775807) (d0 : (d == 0) = false)
    (HG : Hid (∀ w, Calls Try.prog 76 #[.int .u64 (mag n), .int .u64 (mag d)] w fun e w' => e = .returned (.int .u64 g) ∧ Below w.heap.size w w')) (g1 : 1 ≤ g) (g2 : g ≤ 9223372036854775808)
    (ex : IntKind.u64.wrap ((mag n).tdiv g) = x) (ey : IntKind.u64.wrap ((mag d).tdiv g) = y) (x0 : 0 ≤ x) (x1 : x ≤ 18446744073709551615) (_y0 : 0 ≤ y) (_y1 : y ≤ 18446744073709551615)
    (ht : Hid (t = if (!(decide (n < 0) == decide (d < 0))) = true then -x else x))
    (HR : Hid (∀ w, Calls Try.prog 79 #[.agg #[.int .u64 (whi t), .int .u64 (wlo t)], .agg #[.int .u64 0, .int .u64 y]] w fun e w' => e = .returned (.tuple #[.agg #[.int .i64 N, .int .i64 M], .int .i64 E]) ∧ Below w.heap.size w w')) :
    Calls Try.prog 45 #[.int .i64 n, .int .i64 d] w fun e w' => e = .returned (.tuple #[.agg #[.int .i64 N, .int .i64 M], .int .i64 E]) ∧ Below w.heap.size w w' := by
  have HA : Hid (∀ w, Calls Try.prog 77 #[.int .i64 n] w fun e w' => e = .returned (.int .u64 (mag n)) ∧ w = w') := size_any n n1 n2
  have HB : Hid (∀ w, Calls Try.prog 77 #[.int .i64 d] w fun e w' => e = .returned (.int .u64 (mag d)) ∧ w = w') := size_any d d1 d2
  have v3 : ¬ g = 0 := by omega
  have m0 := mag_lo n; have m1 := mag_le n n1 n2; have m2 := mag_lo d; have m3 := mag_le d d1 d2
  go_enter Try.func45, Try.ntmps45
  go_upto_region 3 with fail
  go_cut [6] (fun s6 wx => s6 = .int .u64 g ∧ Blk wx w.heap.size #[.int .i64 0, .int .i64 0] 23 ∧ Below w.heap.size w wx)
  case first =>
    go_wp2_with (first
      | (go_at_call 77; (with_reducible refine (HA.out _).mono ?_); rintro e w1 ⟨rfl, rfl⟩)
      | (go_at_call 77; (with_reducible refine (HB.out _).mono ?_); rintro e w1 ⟨rfl, rfl⟩)
      | (go_at_call 76; (with_reducible refine (HG.out _).mono ?_); rintro e w1 ⟨rfl, hb⟩))
    go_meet
    exact ⟨rfl, by (repeat' (first | (with_reducible assumption) | ((with_reducible refine Blk.new ?_); first | rfl | (simp; done)) | (with_reducible refine Blk.later (by assumption) ?_) | (with_reducible refine Blk.alloc ?_) | (with_reducible refine Blk.drewN ?_) | (with_reducible refine Blk.drew ?_) | (with_reducible refine Blk.other ?_ (by first | omega | (simp; done) | (simp; omega))))), by (repeat' (first | (with_reducible exact Below.refl _ _) | (with_reducible assumption) | (with_reducible refine belowThru ?_ (by assumption)) | (with_reducible refine belowAlloc ?_) | (with_reducible refine Below.setCell ?_ (by first | omega | (simp; done) | (simp; omega)) _) | (with_reducible refine Below.drew ?_) | (with_reducible refine below_drewN ?_ _)))⟩
  case rest =>
    obtain ⟨rfl, k0, hB⟩ := hcut
    obtain ⟨a0, b0⟩ := k0.read
    have z0 := k0.lt
    go_upto_region 4 with fail
    go_cut [7, 8] (fun s7 s8 wx => At2 wx (w.heap.size + 1) #[.int .u64 0, .int .u64 x] #[.int .u64 0, .int .u64 y] 109 s7 s8 ∧ Blk wx w.heap.size #[.int .i64 0, .int .i64 0] 23 ∧ Below w.heap.size w wx)
    case first =>
      have v5 : IntKind.u64.wrap ((mag n).tdiv g) = x := ex
      go_region_held3 (fun w' => (Blk w' w.heap.size #[.int .i64 0, .int .i64 0] 23 ∧ (∀ i : Nat, w'.cell? ⟨w.heap.size, i, none⟩ = (#[.int .i64 0, .int .i64 0] : Array Value)[i]?)) ∧ Below w.heap.size w w')
        (((first | (apply hold1; (focus assumption); intro p0 pB) | skip); refine ⟨Blk.full ?_, ?_⟩; all_goals (first | ((repeat' (first | (with_reducible assumption) | ((with_reducible refine Blk.new ?_); first | rfl | (simp; done)) | (with_reducible refine Blk.later (by assumption) ?_) | (with_reducible refine Blk.alloc ?_) | (with_reducible refine Blk.drewN ?_) | (with_reducible refine Blk.drew ?_) | (with_reducible refine Blk.other ?_ (by first | omega | (simp; done) | (simp; omega))))); done) | ((repeat' (first | (with_reducible exact Below.refl _ _) | (with_reducible assumption) | (with_reducible refine belowThru ?_ (by assumption)) | (with_reducible refine belowAlloc ?_) | (with_reducible refine Below.setCell ?_ (by first | omega | (simp; done) | (simp; omega)) _) | (with_reducible refine Below.drew ?_) | (with_reducible refine below_drewN ?_ _))); done))))
        (first
        | (go_at_call 77; (with_reducible refine (HA.out _).mono ?_); rintro e w1 ⟨rfl, rfl⟩)
        | (go_at_call 77; (with_reducible refine (HB.out _).mono ?_); rintro e w1 ⟨rfl, rfl⟩))
      all_goals
        go_wp2_with fail
        go_meet
        refine ⟨At2.mk (by omega) (by omega) (by omega) ?_ ?_, ?_, ?_⟩
        · (repeat' (first | (with_reducible assumption) | ((with_reducible refine Blk.new ?_); first | rfl | (simp; done)) | (with_reducible refine Blk.later (by assumption) ?_) | (with_reducible refine Blk.alloc ?_) | (with_reducible refine Blk.drewN ?_) | (with_reducible refine Blk.drew ?_) | (with_reducible refine Blk.other ?_ (by first | omega | (simp; done) | (simp; omega)))))
        · (repeat' (first | (with_reducible assumption) | ((with_reducible refine Blk.new ?_); first | rfl | (simp; done)) | (with_reducible refine Blk.later (by assumption) ?_) | (with_reducible refine Blk.alloc ?_) | (with_reducible refine Blk.drewN ?_) | (with_reducible refine Blk.drew ?_) | (with_reducible refine Blk.other ?_ (by first | omega | (simp; done) | (simp; omega)))))
        · (repeat' (first | (with_reducible assumption) | ((with_reducible refine Blk.new ?_); first | rfl | (simp; done)) | (with_reducible refine Blk.later (by assumption) ?_) | (with_reducible refine Blk.alloc ?_) | (with_reducible refine Blk.drewN ?_) | (with_reducible refine Blk.drew ?_) | (with_reducible refine Blk.other ?_ (by first | omega | (simp; done) | (simp; omega)))))
        · (repeat' (first | (with_reducible exact Below.refl _ _) | (with_reducible assumption) | (with_reducible refine belowThru ?_ (by assumption)) | (with_reducible refine belowAlloc ?_) | (with_reducible refine Below.setCell ?_ (by first | omega | (simp; done) | (simp; omega)) _) | (with_reducible refine Below.drew ?_) | (with_reducible refine below_drewN ?_ _)))
    case rest =>
      obtain ⟨⟨p1, p2, rfl, rfl, l1, l2, hn, k1, k2⟩, k0, hB⟩ := hcut
      obtain ⟨a0, b0⟩ := k0.read; obtain ⟨a1, b1⟩ := k1.read; obtain ⟨a2, b2⟩ := k2.read
      have z0 := k0.lt; have z1 := k1.lt; have z2 := k2.lt
      have w1 := whi_of x x0 x1; have w2 := wlo_of x x0 x1
      have hs : (!(decide (n < 0) == decide (d < 0))) = true ∨ (!(decide (n < 0) == decide (d < 0))) = false := by
        cases (!(decide (n < 0) == decide (d < 0))) <;> simp
      rcases hs with hs | hs
      · have ht' := ht.out
        rw [if_pos hs] at ht'
        have HO : Hid (∀ w, Calls Try.prog 78 #[.agg #[.int .u64 0, .int .u64 x]] w fun e w' => e = .returned (.agg #[.int .u64 (whi t), .int .u64 (wlo t)]) ∧ Below w.heap.size w w') := by
          intro w; have := opposite_any x w; rw [w1, w2, ← ht'] at this; exact this
        clear w1 w2 ht' ht
        go_wp2_with (first
          | (go_at_call 78; (with_reducible refine (HO.out _).mono ?_); rintro e w1 ⟨rfl, hb⟩; (try (have zk := k0.lt; (first | ((with_reducible refine Blk.keepG hb k0 (fun h => ?_) ?_); (focus ((repeat' (first | (with_reducible assumption) | ((with_reducible refine Blk.new ?_); first | rfl | (simp; done)) | (with_reducible refine Blk.later (by assumption) ?_) | (with_reducible refine Blk.alloc ?_) | (with_reducible refine Blk.drewN ?_) | (with_reducible refine Blk.drew ?_) | (with_reducible refine Blk.other ?_ (by first | omega | (simp; done) | (simp; omega))))); done)); clear k0; intro k0) | (with_reducible replace k0 := Blk.later hb (Blk.set (Blk.set k0))) | (with_reducible replace k0 := Blk.later hb (Blk.set k0))); clear a0 b0; obtain ⟨a0, b0⟩ := k0.read; have zl := k0.lt)); (try (have zk := k1.lt; (first | ((with_reducible refine Blk.keepG hb k1 (fun h => ?_) ?_); (focus ((repeat' (first | (with_reducible assumption) | ((with_reducible refine Blk.new ?_); first | rfl | (simp; done)) | (with_reducible refine Blk.later (by assumption) ?_) | (with_reducible refine Blk.alloc ?_) | (with_reducible refine Blk.drewN ?_) | (with_reducible refine Blk.drew ?_) | (with_reducible refine Blk.other ?_ (by first | omega | (simp; done) | (simp; omega))))); done)); clear k1; intro k1) | (with_reducible replace k1 := Blk.later hb (Blk.set (Blk.set k1))) | (with_reducible replace k1 := Blk.later hb (Blk.set k1))); clear a1 b1; obtain ⟨a1, b1⟩ := k1.read; have zl := k1.lt)); (try (have zk := k2.lt; (first | ((with_reducible refine Blk.keepG hb k2 (fun h => ?_) ?_); (focus ((repeat' (first | (with_reducible assumption) | ((with_reducible refine Blk.new ?_); first | rfl | (simp; done)) | (with_reducible refine Blk.later (by assumption) ?_) | (with_reducible refine Blk.alloc ?_) | (with_reducible refine Blk.drewN ?_) | (with_reducible refine Blk.drew ?_) | (with_reducible refine Blk.other ?_ (by first | omega | (simp; done) | (simp; omega))))); done)); clear k2; intro k2) | (with_reducible replace k2 := Blk.later hb (Blk.set (Blk.set k2))) | (with_reducible replace k2 := Blk.later hb (Blk.set k2))); clear a2 b2; obtain ⟨a2, b2⟩ := k2.read; have zl := k2.lt)); (first | (have zk := kn.lt; (first | ((with_reducible refine Blk.keepG hb kn (fun h => ?_) ?_); (focus ((repeat' (first | (with_reducible assumption) | ((with_reducible refine Blk.new ?_); first | rfl | (simp; done)) | (with_reducible refine Blk.later (by assumption) ?_) | (with_reducible refine Blk.alloc ?_) | (with_reducible refine Blk.drewN ?_) | (with_reducible refine Blk.drew ?_) | (with_reducible refine Blk.other ?_ (by first | omega | (simp; done) | (simp; omega))))); done)); clear kn; intro kn) | (with_reducible replace kn := Blk.later hb (Blk.set (Blk.set kn))) | (with_reducible replace kn := Blk.later hb (Blk.set kn))); clear an bn; obtain ⟨an, bn⟩ := kn.read; have zl := kn.lt) | ((first | (with_reducible have kn := Blk.later hb (Blk.new rfl)) | (with_reducible have kn := Blk.later hb (Blk.drew (Blk.new rfl))) | (with_reducible have kn := Blk.later hb (Blk.drewN (Blk.new rfl)))); (try simp only [World.size_alloc, World.size_drew, World.heap_drewN] at kn); obtain ⟨an, bn⟩ := kn.read; have zl := kn.lt) | skip))
          | (go_at_call 79; (with_reducible refine (HR.out _).mono ?_); rintro e w1 ⟨rfl, hb⟩; (try (have zk := k0.lt; (first | ((with_reducible refine Blk.keepG hb k0 (fun h => ?_) ?_); (focus ((repeat' (first | (with_reducible assumption) | ((with_reducible refine Blk.new ?_); first | rfl | (simp; done)) | (with_reducible refine Blk.later (by assumption) ?_) | (with_reducible refine Blk.alloc ?_) | (with_reducible refine Blk.drewN ?_) | (with_reducible refine Blk.drew ?_) | (with_reducible refine Blk.other ?_ (by first | omega | (simp; done) | (simp; omega))))); done)); clear k0; intro k0) | (with_reducible replace k0 := Blk.later hb (Blk.set (Blk.set k0))) | (with_reducible replace k0 := Blk.later hb (Blk.set k0))); clear a0 b0; obtain ⟨a0, b0⟩ := k0.read; have zl := k0.lt)); (try (have zk := k1.lt; (first | ((with_reducible refine Blk.keepG hb k1 (fun h => ?_) ?_); (focus ((repeat' (first | (with_reducible assumption) | ((with_reducible refine Blk.new ?_); first | rfl | (simp; done)) | (with_reducible refine Blk.later (by assumption) ?_) | (with_reducible refine Blk.alloc ?_) | (with_reducible refine Blk.drewN ?_) | (with_reducible refine Blk.drew ?_) | (with_reducible refine Blk.other ?_ (by first | omega | (simp; done) | (simp; omega))))); done)); clear k1; intro k1) | (with_reducible replace k1 := Blk.later hb (Blk.set (Blk.set k1))) | (with_reducible replace k1 := Blk.later hb (Blk.set k1))); clear a1 b1; obtain ⟨a1, b1⟩ := k1.read; have zl := k1.lt)); (try (have zk := k2.lt; (first | ((with_reducible refine Blk.keepG hb k2 (fun h => ?_) ?_); (focus ((repeat' (first | (with_reducible assumption) | ((with_reducible refine Blk.new ?_); first | rfl | (simp; done)) | (with_reducible refine Blk.later (by assumption) ?_) | (with_reducible refine Blk.alloc ?_) | (with_reducible refine Blk.drewN ?_) | (with_reducible refine Blk.drew ?_) | (with_reducible refine Blk.other ?_ (by first | omega | (simp; done) | (simp; omega))))); done)); clear k2; intro k2) | (with_reducible replace k2 := Blk.later hb (Blk.set (Blk.set k2))) | (with_reducible replace k2 := Blk.later hb (Blk.set k2))); clear a2 b2; obtain ⟨a2, b2⟩ := k2.read; have zl := k2.lt)); (first | (have zk := kn.lt; (first | ((with_reducible refine Blk.keepG hb kn (fun h => ?_) ?_); (focus ((repeat' (first | (with_reducible assumption) | ((with_reducible refine Blk.new ?_); first | rfl | (simp; done)) | (with_reducible refine Blk.later (by assumption) ?_) | (with_reducible refine Blk.alloc ?_) | (with_reducible refine Blk.drewN ?_) | (with_reducible refine Blk.drew ?_) | (with_reducible refine Blk.other ?_ (by first | omega | (simp; done) | (simp; omega))))); done)); clear kn; intro kn) | (with_reducible replace kn := Blk.later hb (Blk.set (Blk.set kn))) | (with_reducible replace kn := Blk.later hb (Blk.set kn))); clear an bn; obtain ⟨an, bn⟩ := kn.read; have zl := kn.lt) | ((first | (with_reducible have kn := Blk.later hb (Blk.new rfl)) | (with_reducible have kn := Blk.later hb (Blk.drew (Blk.new rfl))) | (with_reducible have kn := Blk.later hb (Blk.drewN (Blk.new rfl)))); (try simp only [World.size_alloc, World.size_drew, World.heap_drewN] at kn); obtain ⟨an, bn⟩ := kn.read; have zl := kn.lt) | skip)))
        exact bodyPost_ret (v := .tuple #[.agg #[.int .i64 N, .int .i64 M], .int .i64 E]) (by simp only [results, Try.results45]; go_simp) rfl ⟨rfl, by (repeat' (first | (with_reducible exact Below.refl _ _) | (with_reducible assumption) | (with_reducible refine belowThru ?_ (by assumption)) | (with_reducible refine belowAlloc ?_) | (with_reducible refine Below.setCell ?_ (by first | omega | (simp; done) | (simp; omega)) _) | (with_reducible refine Below.drew ?_) | (with_reducible refine below_drewN ?_ _)))⟩
      · have ht' := ht.out
        rw [if_neg (by rw [hs]; decide)] at ht'
        have HQ : Hid (∀ w, Calls Try.prog 79 #[.agg #[.int .u64 0, .int .u64 x], .agg #[.int .u64 0, .int .u64 y]] w fun e w' => e = .returned (.tuple #[.agg #[.int .i64 N, .int .i64 M], .int .i64 E]) ∧ Below w.heap.size w w') := by
          intro w; have := HR.out w; rw [ht', w1, w2] at this; exact this
        clear w1 w2 ht' ht
        go_wp2_with (go_at_call 79; (with_reducible refine (HQ.out _).mono ?_); rintro e w1 ⟨rfl, hb⟩; (try (have zk := k0.lt; (first | ((with_reducible refine Blk.keepG hb k0 (fun h => ?_) ?_); (focus ((repeat' (first | (with_reducible assumption) | ((with_reducible refine Blk.new ?_); first | rfl | (simp; done)) | (with_reducible refine Blk.later (by assumption) ?_) | (with_reducible refine Blk.alloc ?_) | (with_reducible refine Blk.drewN ?_) | (with_reducible refine Blk.drew ?_) | (with_reducible refine Blk.other ?_ (by first | omega | (simp; done) | (simp; omega))))); done)); clear k0; intro k0) | (with_reducible replace k0 := Blk.later hb (Blk.set (Blk.set k0))) | (with_reducible replace k0 := Blk.later hb (Blk.set k0))); clear a0 b0; obtain ⟨a0, b0⟩ := k0.read; have zl := k0.lt)); (try (have zk := k1.lt; (first | ((with_reducible refine Blk.keepG hb k1 (fun h => ?_) ?_); (focus ((repeat' (first | (with_reducible assumption) | ((with_reducible refine Blk.new ?_); first | rfl | (simp; done)) | (with_reducible refine Blk.later (by assumption) ?_) | (with_reducible refine Blk.alloc ?_) | (with_reducible refine Blk.drewN ?_) | (with_reducible refine Blk.drew ?_) | (with_reducible refine Blk.other ?_ (by first | omega | (simp; done) | (simp; omega))))); done)); clear k1; intro k1) | (with_reducible replace k1 := Blk.later hb (Blk.set (Blk.set k1))) | (with_reducible replace k1 := Blk.later hb (Blk.set k1))); clear a1 b1; obtain ⟨a1, b1⟩ := k1.read; have zl := k1.lt)); (try (have zk := k2.lt; (first | ((with_reducible refine Blk.keepG hb k2 (fun h => ?_) ?_); (focus ((repeat' (first | (with_reducible assumption) | ((with_reducible refine Blk.new ?_); first | rfl | (simp; done)) | (with_reducible refine Blk.later (by assumption) ?_) | (with_reducible refine Blk.alloc ?_) | (with_reducible refine Blk.drewN ?_) | (with_reducible refine Blk.drew ?_) | (with_reducible refine Blk.other ?_ (by first | omega | (simp; done) | (simp; omega))))); done)); clear k2; intro k2) | (with_reducible replace k2 := Blk.later hb (Blk.set (Blk.set k2))) | (with_reducible replace k2 := Blk.later hb (Blk.set k2))); clear a2 b2; obtain ⟨a2, b2⟩ := k2.read; have zl := k2.lt)); (first | (have zk := kn.lt; (first | ((with_reducible refine Blk.keepG hb kn (fun h => ?_) ?_); (focus ((repeat' (first | (with_reducible assumption) | ((with_reducible refine Blk.new ?_); first | rfl | (simp; done)) | (with_reducible refine Blk.later (by assumption) ?_) | (with_reducible refine Blk.alloc ?_) | (with_reducible refine Blk.drewN ?_) | (with_reducible refine Blk.drew ?_) | (with_reducible refine Blk.other ?_ (by first | omega | (simp; done) | (simp; omega))))); done)); clear kn; intro kn) | (with_reducible replace kn := Blk.later hb (Blk.set (Blk.set kn))) | (with_reducible replace kn := Blk.later hb (Blk.set kn))); clear an bn; obtain ⟨an, bn⟩ := kn.read; have zl := kn.lt) | ((first | (with_reducible have kn := Blk.later hb (Blk.new rfl)) | (with_reducible have kn := Blk.later hb (Blk.drew (Blk.new rfl))) | (with_reducible have kn := Blk.later hb (Blk.drewN (Blk.new rfl)))); (try simp only [World.size_alloc, World.size_drew, World.heap_drewN] at kn); obtain ⟨an, bn⟩ := kn.read; have zl := kn.lt) | skip))
        exact bodyPost_ret (v := .tuple #[.agg #[.int .i64 N, .int .i64 M], .int .i64 E]) (by simp only [results, Try.results45]; go_simp) rfl ⟨rfl, by (repeat' (first | (with_reducible exact Below.refl _ _) | (with_reducible assumption) | (with_reducible refine belowThru ?_ (by assumption)) | (with_reducible refine belowAlloc ?_) | (with_reducible refine Below.setCell ?_ (by first | omega | (simp; done) | (simp; omega)) _) | (with_reducible refine Below.drew ?_) | (with_reducible refine below_drewN ?_ _)))⟩
end Go.Proofs.Ytdimmnoflenfhaa
/-
  Layer 1: lists of two fractions are checked.
-/
namespace Go.Proofs.Ytdimmnoflenfhaa
open Go.RowKit

/-- 0, or the error that one of two fractions is not valid. -/
def ck2 (a b c d : Int) : Int := if okF a b then ck c d else 8
theorem ck_ok {a b : Int} (h : okF a b) : ck a b = 0 := if_pos h
theorem ck_no {a b : Int} (h : ¬ okF a b) : ck a b = 8 := if_neg h

/-- How far the list has been checked. -/
def Far (a b c d : Int) (i : Value) : Prop := i = .int .i64 0 ∨ (i = .int .i64 1 ∧ okF a b) ∨ (i = .int .i64 2 ∧ okF a b ∧ okF c d)

set_option maxHeartbeats 2000000 in
theorem checkAll_two (a b c d : Int) (B : Nat) (w : World) (h0 : w.cell? ⟨B, 0, none⟩ = some (.int .i64 a)) (h1 : w.cell? ⟨B, 1, none⟩ = some (.int .i64 b)) (h2 : w.cell? ⟨B, 2, none⟩ = some (.int .i64 c)) (h3 : w.cell? ⟨B, 3, none⟩ = some (.int .i64 d)) :
    Calls Try.prog 80 #[.slice (some ⟨B, 0, none⟩) 2 2] w fun e w' => e = .returned (.int .i64 (ck2 a b c d)) ∧ Below w.heap.size w w' := by
  have HB : B < w.heap.size := World.block_lt_of_cell? w ⟨B, 0, none⟩ h0
  go_enter Try.func80, Try.ntmps80
  go_wp2
  go_loopw [8] (fun i wr => Far a b c d i ∧ Below w.heap.size w wr) (fun i _ => (2 - intOf i).toNat)
  case atStart => exact ⟨Or.inl rfl, Below.refl _ _⟩
  case round =>
    obtain ⟨hi, hb0⟩ := hrel
    have g0 := cell_later (hb0.mono (Nat.le_refl _)) h0
    have g1 := cell_later (hb0.mono (Nat.le_refl _)) h1
    have g2 := cell_later (hb0.mono (Nat.le_refl _)) h2
    have g3 := cell_later (hb0.mono (Nat.le_refl _)) h3
    have hz := hb0.size
    clear h0 h1 h2 h3
    rcases hi with rfl | ⟨rfl, ha⟩ | ⟨rfl, ha, hc⟩
    · by_cases ha : okF a b
      · have hd : (ck a b != 0) = false := by rw [ck_ok ha]; rfl
        go_wp2_with (go_at_call 104; (with_reducible refine (check_any a b _).mono ?_); rintro e w1 ⟨rfl, hb⟩)
        go_roundw
        case rel => exact ⟨Or.inr (Or.inl ⟨rfl, ha⟩), by (repeat' (first | (with_reducible exact Below.refl _ _) | (with_reducible assumption) | (with_reducible refine belowThru ?_ (by assumption)) | (with_reducible refine belowAlloc ?_) | (with_reducible refine Below.setCell ?_ (by first | omega | (simp; done) | (simp; omega)) _) | (with_reducible refine Below.drew ?_) | (with_reducible refine below_drewN ?_ _)))⟩
        case measure => simp [intOf]
      · have hd : (ck a b != 0) = true := by rw [ck_no ha]; rfl
        have he : Hid (ck a b = ck2 a b c d) := by show _ = _; rw [ck_no ha]; exact (if_neg ha).symm
        go_wp2_with (go_at_call 104; (with_reducible refine (check_any a b _).mono ?_); rintro e w1 ⟨rfl, hb⟩)
        go_ret
        rw [← he.out]
        exact ⟨rfl, by (repeat' (first | (with_reducible exact Below.refl _ _) | (with_reducible assumption) | (with_reducible refine belowThru ?_ (by assumption)) | (with_reducible refine belowAlloc ?_) | (with_reducible refine Below.setCell ?_ (by first | omega | (simp; done) | (simp; omega)) _) | (with_reducible refine Below.drew ?_) | (with_reducible refine below_drewN ?_ _)))⟩
    · by_cases hc : okF c d
      · have hd : (ck c d != 0) = false := by rw [ck_ok hc]; rfl
        go_wp2_with (go_at_call 104; (with_reducible refine (check_any c d _).mono ?_); rintro e w1 ⟨rfl, hb⟩)
        go_roundw
        case rel => exact ⟨Or.inr (Or.inr ⟨rfl, ha, hc⟩), by (repeat' (first | (with_reducible exact Below.refl _ _) | (with_reducible assumption) | (with_reducible refine belowThru ?_ (by assumption)) | (with_reducible refine belowAlloc ?_) | (with_reducible refine Below.setCell ?_ (by first | omega | (simp; done) | (simp; omega)) _) | (with_reducible refine Below.drew ?_) | (with_reducible refine below_drewN ?_ _)))⟩
        case measure => simp [intOf]
      · have hd : (ck c d != 0) = true := by rw [ck_no hc]; rfl
        have he : Hid (ck c d = ck2 a b c d) := by show _ = _; exact (if_pos ha).symm
        go_wp2_with (go_at_call 104; (with_reducible refine (check_any c d _).mono ?_); rintro e w1 ⟨rfl, hb⟩)
        go_ret
        rw [← he.out]
        exact ⟨rfl, by (repeat' (first | (with_reducible exact Below.refl _ _) | (with_reducible assumption) | (with_reducible refine belowThru ?_ (by assumption)) | (with_reducible refine belowAlloc ?_) | (with_reducible refine Below.setCell ?_ (by first | omega | (simp; done) | (simp; omega)) _) | (with_reducible refine Below.drew ?_) | (with_reducible refine below_drewN ?_ _)))⟩
    · have he : Hid (0 = ck2 a b c d) := by show _ = _; exact ((if_pos ha).trans (ck_ok hc)).symm
      go_wp2
      go_ret
      rw [← he.out]
      exact ⟨rfl, hb0⟩
end Go.Proofs.Ytdimmnoflenfhaa
/-
  Layer 1: the calls on fractions, for any fractions.
-/
namespace Go.Proofs.Ytdimmnoflenfhaa
open Go.RowKit

theorem ck2_ok {q r : Rat} (hq : fits q) (hr : fits r) : ck2 (fn q) (fd q) (fn r) (fd r) = 0 := (if_pos (okF_q hq)).trans (ck_ok (okF_q hr))
theorem ck2_no {a b c d : Int} (h : ¬ (okF a b ∧ okF c d)) : ck2 a b c d = 8 := by
  unfold ck2
  by_cases k : okF a b
  · rw [if_pos k]; exact ck_no (fun x => h ⟨k, x⟩)
  · exact if_neg k

theorem make_q (n d : Int) (w : World) (n1 : -9223372036854775808 ≤ n) (n2 : n ≤ 9223372036854775807) (d1 : -9223372036854775808 ≤ d) (d2 : d ≤ 9223372036854775807) (d0 : d ≠ 0) :
    Calls Try.prog 45 #[.int .i64 n, .int .i64 d] w fun e w' => e = .returned (.tuple #[.agg #[.int .i64 (rn (mkR n d)), .int .i64 (rd (mkR n d))], .int .i64 (re (mkR n d))]) ∧ Below w.heap.size w w' := by
  obtain ⟨g, hg⟩ : ∃ g, g = gcdI (n.natAbs : Int) (d.natAbs : Int) := ⟨_, rfl⟩
  obtain ⟨p1, p2⟩ := mkR_parts n d g d0 hg
  have m0 := mag_lo n; have m1 := mag_le n n1 n2; have m2 := mag_lo d; have m3 := mag_le d d1 d2
  rw [← mag_natAbs, ← mag_natAbs] at hg
  rw [← mag_natAbs] at p1 p2
  have mp : 0 < mag d := by rw [mag_natAbs]; omega
  have g1 : 0 < g := by rw [hg]; exact gcdI_pos_right _ _ mp
  have g2 : g ≤ mag d := by rw [hg]; exact gcdI_le_right _ _ mp
  have bx0 := Int.ediv_nonneg m0 (show 0 ≤ g by omega)
  have bx1 := Int.ediv_le_self g m0
  have by0 := Int.ediv_nonneg m2 (show 0 ≤ g by omega)
  have by1 := Int.ediv_le_self g m2
  have ht : (if (!(decide (n < 0) == decide (d < 0))) = true then -(mag n / g) else mag n / g) = fn (mkR n d) := by
    rw [p1]
    rcases Int.lt_trichotomy n 0 with hn | hn | hn <;> rcases Int.lt_trichotomy d 0 with hd | hd | hd
    · rw [Int.sign_eq_neg_one_of_neg hn, Int.sign_eq_neg_one_of_neg hd, decide_eq_true hn, decide_eq_true hd]; simp
    · exact absurd hd d0
    · rw [Int.sign_eq_neg_one_of_neg hn, Int.sign_eq_one_of_pos hd, decide_eq_true hn, decide_eq_false (by omega)]; simp
    · subst hn; rw [show mag 0 = 0 from rfl]; simp
    · exact absurd hd d0
    · subst hn; rw [show mag 0 = 0 from rfl]; simp
    · rw [Int.sign_eq_one_of_pos hn, Int.sign_eq_neg_one_of_neg hd, decide_eq_false (by omega), decide_eq_true hd]; simp
    · exact absurd hd d0
    · rw [Int.sign_eq_one_of_pos hn, Int.sign_eq_one_of_pos hd, decide_eq_false (by omega), decide_eq_false (by omega)]; simp
  refine make_walk n d g (mag n / g) (mag d / g) _ _ _ _ w n1 n2 d1 d2 (by simpa using d0) ?_ (by omega) (by omega) ?_ ?_ bx0 (by omega) by0 (by omega) rfl ?_
  · intro w
    refine (divisor_any (mag n) (mag d) (by omega) (by omega) (by omega) (by omega) w).mono fun e w' ⟨he, k, hw⟩ => ⟨by rw [he, hg], by rw [hw]; exact below_drewN (Below.refl _ _) k⟩
  · rw [Int.tdiv_eq_ediv_of_nonneg m0, IntKind.wrap_u64]; omega
  · rw [Int.tdiv_eq_ediv_of_nonneg m2, IntKind.wrap_u64]; omega
  · intro w
    have := fraction_q (mkR n d) _ (mag d / g) ht p2.symm w (by split <;> omega) (by split <;> omega) (by omega)
    rw [whi_of (mag d / g) by0 (by omega), wlo_of (mag d / g) by0 (by omega)] at this
    exact this

set_option maxHeartbeats 1000000 in
theorem make_zero (n : Int) (w : World) :
    Calls Try.prog 45 #[.int .i64 n, .int .i64 0] w fun e w' => e = .returned (.tuple #[.agg #[.int .i64 0, .int .i64 0], .int .i64 10]) ∧ Below w.heap.size w w' := by
  go_enter Try.func45, Try.ntmps45
  go_wp2
  exact bodyPost_ret (v := .tuple #[.agg #[.int .i64 0, .int .i64 0], .int .i64 10]) (by simp only [results, Try.results45]; go_simp) rfl ⟨rfl, by (repeat' (first | (with_reducible exact Below.refl _ _) | (with_reducible assumption) | (with_reducible refine belowThru ?_ (by assumption)) | (with_reducible refine belowAlloc ?_) | (with_reducible refine Below.setCell ?_ (by first | omega | (simp; done) | (simp; omega)) _) | (with_reducible refine Below.drew ?_) | (with_reducible refine below_drewN ?_ _)))⟩

set_option maxHeartbeats 1000000 in
theorem sub_q (q r : Rat) (hq : fits q) (hr : fits r) (w : World) :
    Calls Try.prog 90 #[.agg #[.int .i64 (fn q), .int .i64 (fd q)], .agg #[.int .i64 (fn r), .int .i64 (fd r)]] w fun e w' => e = .returned (.tuple #[.agg #[.int .i64 (rn (q - r)), .int .i64 (rd (q - r))], .int .i64 (re (q - r))]) ∧ Below w.heap.size w w' := by
  have HC := Lib.hid (combine_minus q r hq hr)
  have hd : (ck2 (fn q) (fd q) (fn r) (fd r) != 0) = false := by rw [ck2_ok hq hr]; rfl
  clear hq hr
  go_enter Try.func90, Try.ntmps90
  go_wp2_with (first
    | (go_at_call 80; (with_reducible refine (checkAll_two (fn q) (fd q) (fn r) (fd r) _ _ (by simp [go_sem]) (by simp [go_sem]) (by simp [go_sem]) (by simp [go_sem])).mono ?_); rintro e w1 ⟨rfl, hb⟩; obtain ⟨hc, hf⟩ := bcell hb; (try simp only [World.heap_drewN] at hc hf); (try simp only [heap_drew] at hc hf); have hz := hb.size; (try simp at hz); try (have hz0 : w.heap.size < w1.heap.size := by omega); try (have hz1 : w.heap.size + 1 < w1.heap.size := by omega); try (have hz2 : w.heap.size + 1 + 1 < w1.heap.size := by omega); try (have hz3 : w.heap.size + 1 + 1 + 1 < w1.heap.size := by omega); try (have hz4 : w.heap.size + 1 + 1 + 1 + 1 < w1.heap.size := by omega); try (have hz5 : w.heap.size + 1 + 1 + 1 + 1 + 1 < w1.heap.size := by omega))
    | (go_at_call 113; (with_reducible refine (HC.out _).mono ?_); rintro e w1 ⟨rfl, hb⟩; obtain ⟨hc, hf⟩ := bcell hb; (try simp only [World.heap_drewN] at hc hf); (try simp only [heap_drew] at hc hf); have hz := hb.size; (try simp at hz); try (have hz0 : w.heap.size < w1.heap.size := by omega); try (have hz1 : w.heap.size + 1 < w1.heap.size := by omega); try (have hz2 : w.heap.size + 1 + 1 < w1.heap.size := by omega); try (have hz3 : w.heap.size + 1 + 1 + 1 < w1.heap.size := by omega); try (have hz4 : w.heap.size + 1 + 1 + 1 + 1 < w1.heap.size := by omega); try (have hz5 : w.heap.size + 1 + 1 + 1 + 1 + 1 < w1.heap.size := by omega)))
  exact bodyPost_ret (v := .tuple #[.agg #[.int .i64 (rn (q - r)), .int .i64 (rd (q - r))], .int .i64 (re (q - r))]) (by simp only [results, Try.results90]; go_simp) rfl ⟨rfl, by (repeat' (first | (with_reducible exact Below.refl _ _) | (with_reducible assumption) | (with_reducible refine belowThru ?_ (by assumption)) | (with_reducible refine belowAlloc ?_) | (with_reducible refine Below.setCell ?_ (by first | omega | (simp; done) | (simp; omega)) _) | (with_reducible refine Below.drew ?_) | (with_reducible refine below_drewN ?_ _)))⟩

end Go.Proofs.Ytdimmnoflenfhaa
/-
  Layer 1: the enclosure of some fractions.
-/
namespace Go.Proofs.Ytdimmnoflenfhaa
open Go.RowKit

/-- The least, the greatest of a number and some others. -/
def loQ (m : Rat) (xs : List Rat) : Rat := xs.foldl (fun m x => if x < m then x else m) m
def hiQ (m : Rat) (xs : List Rat) : Rat := xs.foldl (fun m x => if m < x then x else m) m
theorem loQ_snoc (m : Rat) (xs : List Rat) (x : Rat) : loQ m (xs ++ [x]) = if x < loQ m xs then x else loQ m xs := by unfold loQ; rw [List.foldl_append]; rfl
theorem hiQ_snoc (m : Rat) (xs : List Rat) (x : Rat) : hiQ m (xs ++ [x]) = if hiQ m xs < x then x else hiQ m xs := by unfold hiQ; rw [List.foldl_append]; rfl
theorem loQ_fits (m : Rat) (hm : fits m) : ∀ xs : List Rat, (∀ x ∈ xs, fits x) → fits (loQ m xs) := by
  intro xs
  induction xs generalizing m with
  | nil => intro _; exact hm
  | cons x xs ih =>
    intro h
    have hx := h x (List.mem_cons_self ..)
    show fits (loQ (if x < m then x else m) xs)
    refine ih _ ?_ (fun y hy => h y (List.mem_cons_of_mem _ hy))
    split <;> assumption
theorem hiQ_fits (m : Rat) (hm : fits m) : ∀ xs : List Rat, (∀ x ∈ xs, fits x) → fits (hiQ m xs) := by
  intro xs
  induction xs generalizing m with
  | nil => intro _; exact hm
  | cons x xs ih =>
    intro h
    have hx := h x (List.mem_cons_self ..)
    show fits (hiQ (if m < x then x else m) xs)
    refine ih _ ?_ (fun y hy => h y (List.mem_cons_of_mem _ hy))
    split <;> assumption

set_option maxRecDepth 100000 in
set_option maxHeartbeats 2000000 in
theorem hull_any (m : Rat) (xs : List Rat) (hm : fits m) (hx : ∀ x ∈ xs, fits x) (B off n c : Nat) (hn : n = xs.length) (hn1 : n ≤ 100) (_ho : off ≤ 100) (w : World)
    (hc : ∀ i, i < n → w.cell? ⟨B, off + i * 2, none⟩ = some (.int .i64 (fn (xs.getD i 0))) ∧ w.cell? ⟨B, off + i * 2 + 1, none⟩ = some (.int .i64 (fd (xs.getD i 0)))) :
    Calls Try.prog 93 #[.agg #[.int .i64 (fn m), .int .i64 (fd m)], .slice (some ⟨B, off, none⟩) n c] w fun e w' => e = .returned (.agg #[.int .i64 (fn (loQ m xs)), .int .i64 (fd (loQ m xs)), .int .i64 (fn (hiQ m xs)), .int .i64 (fd (hiQ m xs))]) ∧ Below w.heap.size w w' := by
  have HC := Lib.hid hc; clear hc
  have HX := Lib.hid hx; clear hx
  have HM := Lib.hid hm; clear hm
  have HN := Lib.hid hn; clear hn
  go_enter Try.func93, Try.ntmps93
  go_wp2
  go_loopw [13] (fun i wr => ∃ k : Nat, k ≤ n ∧ i = .int .i64 k ∧ Blk wr (w.heap.size + 1 + 1) #[.int .i64 (fn (loQ m (xs.take k))), .int .i64 (fd (loQ m (xs.take k))), .int .i64 (fn (hiQ m (xs.take k))), .int .i64 (fd (hiQ m (xs.take k)))] 30 ∧ Blk wr (w.heap.size + 1) #[.int .i64 0, .int .i64 0, .int .i64 0, .int .i64 0] 30 ∧ Below w.heap.size w wr) (fun i _ => n - (intOf i).toNat)
  case atStart => exact ⟨0, Nat.zero_le _, rfl, Blk.new (by simp), by (repeat' (first | (with_reducible assumption) | ((with_reducible refine Blk.new ?_); first | rfl | (simp; done)) | (with_reducible refine Blk.later (by assumption) ?_) | (with_reducible refine Blk.alloc ?_) | (with_reducible refine Blk.drewN ?_) | (with_reducible refine Blk.drew ?_) | (with_reducible refine Blk.other ?_ (by first | omega | (simp; done) | (simp; omega))))), by (repeat' (first | (with_reducible exact Below.refl _ _) | (with_reducible assumption) | (with_reducible refine belowThru ?_ (by assumption)) | (with_reducible refine belowAlloc ?_) | (with_reducible refine Below.setCell ?_ (by first | omega | (simp; done) | (simp; omega)) _) | (with_reducible refine Below.drew ?_) | (with_reducible refine below_drewN ?_ _)))⟩
  case round =>
    obtain ⟨k, hk, rfl, k2, k1, hB⟩ := hrel
    obtain ⟨a2, b2⟩ := k2.read; obtain ⟨a1, b1⟩ := k1.read
    have z1 := k1.lt; have z2 := k2.lt
    by_cases hlt : k < n
    · obtain ⟨x, hxe⟩ : ∃ x, x = xs.getD k 0 := ⟨_, rfl⟩
      have HL := HN.out
      have hxk : xs[k]? = some x := by rw [hxe, List.getD_eq_getElem?_getD, List.getElem?_eq_getElem (by omega)]; rfl
      have fx : fits x := HX.out x (List.mem_of_getElem? hxk)
      have HT : Hid (xs.take (k + 1) = xs.take k ++ [x]) := by
        show _ = _; rw [List.take_add_one, hxk]; rfl
      have flo : fits (loQ m (xs.take k)) := loQ_fits m HM.out _ (fun y hy => HX.out y (List.mem_of_mem_take hy))
      have fhi : fits (hiQ m (xs.take k)) := hiQ_fits m HM.out _ (fun y hy => HX.out y (List.mem_of_mem_take hy))
      obtain ⟨g0, g1⟩ := HC.out k hlt
      rw [← hxe] at g0 g1
      have g0 := cell_later (hB.mono (Nat.le_refl _)) g0
      have g1 := cell_later (hB.mono (Nat.le_refl _)) g1
      have H1 := Lib.hid (order_q x _ fx flo)
      have H2 := Lib.hid (order_q x _ fx fhi)
      clear hxe HL hxk fx flo fhi
      by_cases h1 : ordQ x (loQ m (xs.take k)) < 0 <;> by_cases h2 : 0 < ordQ x (hiQ m (xs.take k))
      · have e1 : Hid (loQ m (xs.take (k + 1)) = x) := by show _ = _; rw [HT.out, loQ_snoc, if_pos (ordQ_lt.1 h1)]
        have e2 : Hid (hiQ m (xs.take (k + 1)) = x) := by show _ = _; rw [HT.out, hiQ_snoc, if_pos (ordQ_gt.1 h2)]
        go_wp2_with (first
          | (go_at_call 81; (with_reducible refine (H1.out _).mono ?_); rintro e w1 ⟨rfl, hb⟩; (try (have zk := k1.lt; (first | ((with_reducible refine Blk.keepG hb k1 (fun h => ?_) ?_); (focus ((repeat' (first | (with_reducible assumption) | ((with_reducible refine Blk.new ?_); first | rfl | (simp; done)) | (with_reducible refine Blk.later (by assumption) ?_) | (with_reducible refine Blk.alloc ?_) | (with_reducible refine Blk.drewN ?_) | (with_reducible refine Blk.drew ?_) | (with_reducible refine Blk.other ?_ (by first | omega | (simp; done) | (simp; omega))))); done)); clear k1; intro k1) | (with_reducible replace k1 := Blk.later hb (Blk.set (Blk.set k1))) | (with_reducible replace k1 := Blk.later hb (Blk.set k1))); clear a1 b1; obtain ⟨a1, b1⟩ := k1.read; have zl := k1.lt)); (try (have zk := k2.lt; (first | ((with_reducible refine Blk.keepG hb k2 (fun h => ?_) ?_); (focus ((repeat' (first | (with_reducible assumption) | ((with_reducible refine Blk.new ?_); first | rfl | (simp; done)) | (with_reducible refine Blk.later (by assumption) ?_) | (with_reducible refine Blk.alloc ?_) | (with_reducible refine Blk.drewN ?_) | (with_reducible refine Blk.drew ?_) | (with_reducible refine Blk.other ?_ (by first | omega | (simp; done) | (simp; omega))))); done)); clear k2; intro k2) | (with_reducible replace k2 := Blk.later hb (Blk.set (Blk.set k2))) | (with_reducible replace k2 := Blk.later hb (Blk.set k2))); clear a2 b2; obtain ⟨a2, b2⟩ := k2.read; have zl := k2.lt)); (first | (have zk := kn.lt; (first | ((with_reducible refine Blk.keepG hb kn (fun h => ?_) ?_); (focus ((repeat' (first | (with_reducible assumption) | ((with_reducible refine Blk.new ?_); first | rfl | (simp; done)) | (with_reducible refine Blk.later (by assumption) ?_) | (with_reducible refine Blk.alloc ?_) | (with_reducible refine Blk.drewN ?_) | (with_reducible refine Blk.drew ?_) | (with_reducible refine Blk.other ?_ (by first | omega | (simp; done) | (simp; omega))))); done)); clear kn; intro kn) | (with_reducible replace kn := Blk.later hb (Blk.set (Blk.set kn))) | (with_reducible replace kn := Blk.later hb (Blk.set kn))); clear an bn; obtain ⟨an, bn⟩ := kn.read; have zl := kn.lt) | ((first | (with_reducible have kn := Blk.later hb (Blk.new rfl)) | (with_reducible have kn := Blk.later hb (Blk.drew (Blk.new rfl))) | (with_reducible have kn := Blk.later hb (Blk.drewN (Blk.new rfl)))); (try simp only [World.size_alloc, World.size_drew, World.heap_drewN] at kn); obtain ⟨an, bn⟩ := kn.read; have zl := kn.lt) | skip))
          | (go_at_call 81; (with_reducible refine (H2.out _).mono ?_); rintro e w1 ⟨rfl, hb⟩; (try (have zk := k1.lt; (first | ((with_reducible refine Blk.keepG hb k1 (fun h => ?_) ?_); (focus ((repeat' (first | (with_reducible assumption) | ((with_reducible refine Blk.new ?_); first | rfl | (simp; done)) | (with_reducible refine Blk.later (by assumption) ?_) | (with_reducible refine Blk.alloc ?_) | (with_reducible refine Blk.drewN ?_) | (with_reducible refine Blk.drew ?_) | (with_reducible refine Blk.other ?_ (by first | omega | (simp; done) | (simp; omega))))); done)); clear k1; intro k1) | (with_reducible replace k1 := Blk.later hb (Blk.set (Blk.set k1))) | (with_reducible replace k1 := Blk.later hb (Blk.set k1))); clear a1 b1; obtain ⟨a1, b1⟩ := k1.read; have zl := k1.lt)); (try (have zk := k2.lt; (first | ((with_reducible refine Blk.keepG hb k2 (fun h => ?_) ?_); (focus ((repeat' (first | (with_reducible assumption) | ((with_reducible refine Blk.new ?_); first | rfl | (simp; done)) | (with_reducible refine Blk.later (by assumption) ?_) | (with_reducible refine Blk.alloc ?_) | (with_reducible refine Blk.drewN ?_) | (with_reducible refine Blk.drew ?_) | (with_reducible refine Blk.other ?_ (by first | omega | (simp; done) | (simp; omega))))); done)); clear k2; intro k2) | (with_reducible replace k2 := Blk.later hb (Blk.set (Blk.set k2))) | (with_reducible replace k2 := Blk.later hb (Blk.set k2))); clear a2 b2; obtain ⟨a2, b2⟩ := k2.read; have zl := k2.lt)); (first | (have zk := kn.lt; (first | ((with_reducible refine Blk.keepG hb kn (fun h => ?_) ?_); (focus ((repeat' (first | (with_reducible assumption) | ((with_reducible refine Blk.new ?_); first | rfl | (simp; done)) | (with_reducible refine Blk.later (by assumption) ?_) | (with_reducible refine Blk.alloc ?_) | (with_reducible refine Blk.drewN ?_) | (with_reducible refine Blk.drew ?_) | (with_reducible refine Blk.other ?_ (by first | omega | (simp; done) | (simp; omega))))); done)); clear kn; intro kn) | (with_reducible replace kn := Blk.later hb (Blk.set (Blk.set kn))) | (with_reducible replace kn := Blk.later hb (Blk.set kn))); clear an bn; obtain ⟨an, bn⟩ := kn.read; have zl := kn.lt) | ((first | (with_reducible have kn := Blk.later hb (Blk.new rfl)) | (with_reducible have kn := Blk.later hb (Blk.drew (Blk.new rfl))) | (with_reducible have kn := Blk.later hb (Blk.drewN (Blk.new rfl)))); (try simp only [World.size_alloc, World.size_drew, World.heap_drewN] at kn); obtain ⟨an, bn⟩ := kn.read; have zl := kn.lt) | skip)))
        go_roundw
        case rel =>
          refine ⟨k + 1, hlt, by go_num, ?_, ?_, by (repeat' (first | (with_reducible exact Below.refl _ _) | (with_reducible assumption) | (with_reducible refine belowThru ?_ (by assumption)) | (with_reducible refine belowAlloc ?_) | (with_reducible refine Below.setCell ?_ (by first | omega | (simp; done) | (simp; omega)) _) | (with_reducible refine Below.drew ?_) | (with_reducible refine below_drewN ?_ _)))⟩
          · rw [e1.out, e2.out]
            exact Blk.set (Blk.set k2)
          · (repeat' (first | (with_reducible assumption) | ((with_reducible refine Blk.new ?_); first | rfl | (simp; done)) | (with_reducible refine Blk.later (by assumption) ?_) | (with_reducible refine Blk.alloc ?_) | (with_reducible refine Blk.drewN ?_) | (with_reducible refine Blk.drew ?_) | (with_reducible refine Blk.other ?_ (by first | omega | (simp; done) | (simp; omega)))))
        case measure => simp [intOf]; omega
      · have e1 : Hid (loQ m (xs.take (k + 1)) = x) := by show _ = _; rw [HT.out, loQ_snoc, if_pos (ordQ_lt.1 h1)]
        have e2 : Hid (hiQ m (xs.take (k + 1)) = hiQ m (xs.take k)) := by show _ = _; rw [HT.out, hiQ_snoc, if_neg (fun h => h2 (ordQ_gt.2 h))]
        go_wp2_with (first
          | (go_at_call 81; (with_reducible refine (H1.out _).mono ?_); rintro e w1 ⟨rfl, hb⟩; (try (have zk := k1.lt; (first | ((with_reducible refine Blk.keepG hb k1 (fun h => ?_) ?_); (focus ((repeat' (first | (with_reducible assumption) | ((with_reducible refine Blk.new ?_); first | rfl | (simp; done)) | (with_reducible refine Blk.later (by assumption) ?_) | (with_reducible refine Blk.alloc ?_) | (with_reducible refine Blk.drewN ?_) | (with_reducible refine Blk.drew ?_) | (with_reducible refine Blk.other ?_ (by first | omega | (simp; done) | (simp; omega))))); done)); clear k1; intro k1) | (with_reducible replace k1 := Blk.later hb (Blk.set (Blk.set k1))) | (with_reducible replace k1 := Blk.later hb (Blk.set k1))); clear a1 b1; obtain ⟨a1, b1⟩ := k1.read; have zl := k1.lt)); (try (have zk := k2.lt; (first | ((with_reducible refine Blk.keepG hb k2 (fun h => ?_) ?_); (focus ((repeat' (first | (with_reducible assumption) | ((with_reducible refine Blk.new ?_); first | rfl | (simp; done)) | (with_reducible refine Blk.later (by assumption) ?_) | (with_reducible refine Blk.alloc ?_) | (with_reducible refine Blk.drewN ?_) | (with_reducible refine Blk.drew ?_) | (with_reducible refine Blk.other ?_ (by first | omega | (simp; done) | (simp; omega))))); done)); clear k2; intro k2) | (with_reducible replace k2 := Blk.later hb (Blk.set (Blk.set k2))) | (with_reducible replace k2 := Blk.later hb (Blk.set k2))); clear a2 b2; obtain ⟨a2, b2⟩ := k2.read; have zl := k2.lt)); (first | (have zk := kn.lt; (first | ((with_reducible refine Blk.keepG hb kn (fun h => ?_) ?_); (focus ((repeat' (first | (with_reducible assumption) | ((with_reducible refine Blk.new ?_); first | rfl | (simp; done)) | (with_reducible refine Blk.later (by assumption) ?_) | (with_reducible refine Blk.alloc ?_) | (with_reducible refine Blk.drewN ?_) | (with_reducible refine Blk.drew ?_) | (with_reducible refine Blk.other ?_ (by first | omega | (simp; done) | (simp; omega))))); done)); clear kn; intro kn) | (with_reducible replace kn := Blk.later hb (Blk.set (Blk.set kn))) | (with_reducible replace kn := Blk.later hb (Blk.set kn))); clear an bn; obtain ⟨an, bn⟩ := kn.read; have zl := kn.lt) | ((first | (with_reducible have kn := Blk.later hb (Blk.new rfl)) | (with_reducible have kn := Blk.later hb (Blk.drew (Blk.new rfl))) | (with_reducible have kn := Blk.later hb (Blk.drewN (Blk.new rfl)))); (try simp only [World.size_alloc, World.size_drew, World.heap_drewN] at kn); obtain ⟨an, bn⟩ := kn.read; have zl := kn.lt) | skip))
          | (go_at_call 81; (with_reducible refine (H2.out _).mono ?_); rintro e w1 ⟨rfl, hb⟩; (try (have zk := k1.lt; (first | ((with_reducible refine Blk.keepG hb k1 (fun h => ?_) ?_); (focus ((repeat' (first | (with_reducible assumption) | ((with_reducible refine Blk.new ?_); first | rfl | (simp; done)) | (with_reducible refine Blk.later (by assumption) ?_) | (with_reducible refine Blk.alloc ?_) | (with_reducible refine Blk.drewN ?_) | (with_reducible refine Blk.drew ?_) | (with_reducible refine Blk.other ?_ (by first | omega | (simp; done) | (simp; omega))))); done)); clear k1; intro k1) | (with_reducible replace k1 := Blk.later hb (Blk.set (Blk.set k1))) | (with_reducible replace k1 := Blk.later hb (Blk.set k1))); clear a1 b1; obtain ⟨a1, b1⟩ := k1.read; have zl := k1.lt)); (try (have zk := k2.lt; (first | ((with_reducible refine Blk.keepG hb k2 (fun h => ?_) ?_); (focus ((repeat' (first | (with_reducible assumption) | ((with_reducible refine Blk.new ?_); first | rfl | (simp; done)) | (with_reducible refine Blk.later (by assumption) ?_) | (with_reducible refine Blk.alloc ?_) | (with_reducible refine Blk.drewN ?_) | (with_reducible refine Blk.drew ?_) | (with_reducible refine Blk.other ?_ (by first | omega | (simp; done) | (simp; omega))))); done)); clear k2; intro k2) | (with_reducible replace k2 := Blk.later hb (Blk.set (Blk.set k2))) | (with_reducible replace k2 := Blk.later hb (Blk.set k2))); clear a2 b2; obtain ⟨a2, b2⟩ := k2.read; have zl := k2.lt)); (first | (have zk := kn.lt; (first | ((with_reducible refine Blk.keepG hb kn (fun h => ?_) ?_); (focus ((repeat' (first | (with_reducible assumption) | ((with_reducible refine Blk.new ?_); first | rfl | (simp; done)) | (with_reducible refine Blk.later (by assumption) ?_) | (with_reducible refine Blk.alloc ?_) | (with_reducible refine Blk.drewN ?_) | (with_reducible refine Blk.drew ?_) | (with_reducible refine Blk.other ?_ (by first | omega | (simp; done) | (simp; omega))))); done)); clear kn; intro kn) | (with_reducible replace kn := Blk.later hb (Blk.set (Blk.set kn))) | (with_reducible replace kn := Blk.later hb (Blk.set kn))); clear an bn; obtain ⟨an, bn⟩ := kn.read; have zl := kn.lt) | ((first | (with_reducible have kn := Blk.later hb (Blk.new rfl)) | (with_reducible have kn := Blk.later hb (Blk.drew (Blk.new rfl))) | (with_reducible have kn := Blk.later hb (Blk.drewN (Blk.new rfl)))); (try simp only [World.size_alloc, World.size_drew, World.heap_drewN] at kn); obtain ⟨an, bn⟩ := kn.read; have zl := kn.lt) | skip)))
        go_roundw
        case rel =>
          refine ⟨k + 1, hlt, by go_num, ?_, ?_, by (repeat' (first | (with_reducible exact Below.refl _ _) | (with_reducible assumption) | (with_reducible refine belowThru ?_ (by assumption)) | (with_reducible refine belowAlloc ?_) | (with_reducible refine Below.setCell ?_ (by first | omega | (simp; done) | (simp; omega)) _) | (with_reducible refine Below.drew ?_) | (with_reducible refine below_drewN ?_ _)))⟩
          · rw [e1.out, e2.out]
            exact k2
          · (repeat' (first | (with_reducible assumption) | ((with_reducible refine Blk.new ?_); first | rfl | (simp; done)) | (with_reducible refine Blk.later (by assumption) ?_) | (with_reducible refine Blk.alloc ?_) | (with_reducible refine Blk.drewN ?_) | (with_reducible refine Blk.drew ?_) | (with_reducible refine Blk.other ?_ (by first | omega | (simp; done) | (simp; omega)))))
        case measure => simp [intOf]; omega
      · have e1 : Hid (loQ m (xs.take (k + 1)) = loQ m (xs.take k)) := by show _ = _; rw [HT.out, loQ_snoc, if_neg (fun h => h1 (ordQ_lt.2 h))]
        have e2 : Hid (hiQ m (xs.take (k + 1)) = x) := by show _ = _; rw [HT.out, hiQ_snoc, if_pos (ordQ_gt.1 h2)]
        go_wp2_with (first
          | (go_at_call 81; (with_reducible refine (H1.out _).mono ?_); rintro e w1 ⟨rfl, hb⟩; (try (have zk := k1.lt; (first | ((with_reducible refine Blk.keepG hb k1 (fun h => ?_) ?_); (focus ((repeat' (first | (with_reducible assumption) | ((with_reducible refine Blk.new ?_); first | rfl | (simp; done)) | (with_reducible refine Blk.later (by assumption) ?_) | (with_reducible refine Blk.alloc ?_) | (with_reducible refine Blk.drewN ?_) | (with_reducible refine Blk.drew ?_) | (with_reducible refine Blk.other ?_ (by first | omega | (simp; done) | (simp; omega))))); done)); clear k1; intro k1) | (with_reducible replace k1 := Blk.later hb (Blk.set (Blk.set k1))) | (with_reducible replace k1 := Blk.later hb (Blk.set k1))); clear a1 b1; obtain ⟨a1, b1⟩ := k1.read; have zl := k1.lt)); (try (have zk := k2.lt; (first | ((with_reducible refine Blk.keepG hb k2 (fun h => ?_) ?_); (focus ((repeat' (first | (with_reducible assumption) | ((with_reducible refine Blk.new ?_); first | rfl | (simp; done)) | (with_reducible refine Blk.later (by assumption) ?_) | (with_reducible refine Blk.alloc ?_) | (with_reducible refine Blk.drewN ?_) | (with_reducible refine Blk.drew ?_) | (with_reducible refine Blk.other ?_ (by first | omega | (simp; done) | (simp; omega))))); done)); clear k2; intro k2) | (with_reducible replace k2 := Blk.later hb (Blk.set (Blk.set k2))) | (with_reducible replace k2 := Blk.later hb (Blk.set k2))); clear a2 b2; obtain ⟨a2, b2⟩ := k2.read; have zl := k2.lt)); (first | (have zk := kn.lt; (first | ((with_reducible refine Blk.keepG hb kn (fun h => ?_) ?_); (focus ((repeat' (first | (with_reducible assumption) | ((with_reducible refine Blk.new ?_); first | rfl | (simp; done)) | (with_reducible refine Blk.later (by assumption) ?_) | (with_reducible refine Blk.alloc ?_) | (with_reducible refine Blk.drewN ?_) | (with_reducible refine Blk.drew ?_) | (with_reducible refine Blk.other ?_ (by first | omega | (simp; done) | (simp; omega))))); done)); clear kn; intro kn) | (with_reducible replace kn := Blk.later hb (Blk.set (Blk.set kn))) | (with_reducible replace kn := Blk.later hb (Blk.set kn))); clear an bn; obtain ⟨an, bn⟩ := kn.read; have zl := kn.lt) | ((first | (with_reducible have kn := Blk.later hb (Blk.new rfl)) | (with_reducible have kn := Blk.later hb (Blk.drew (Blk.new rfl))) | (with_reducible have kn := Blk.later hb (Blk.drewN (Blk.new rfl)))); (try simp only [World.size_alloc, World.size_drew, World.heap_drewN] at kn); obtain ⟨an, bn⟩ := kn.read; have zl := kn.lt) | skip))
          | (go_at_call 81; (with_reducible refine (H2.out _).mono ?_); rintro e w1 ⟨rfl, hb⟩; (try (have zk := k1.lt; (first | ((with_reducible refine Blk.keepG hb k1 (fun h => ?_) ?_); (focus ((repeat' (first | (with_reducible assumption) | ((with_reducible refine Blk.new ?_); first | rfl | (simp; done)) | (with_reducible refine Blk.later (by assumption) ?_) | (with_reducible refine Blk.alloc ?_) | (with_reducible refine Blk.drewN ?_) | (with_reducible refine Blk.drew ?_) | (with_reducible refine Blk.other ?_ (by first | omega | (simp; done) | (simp; omega))))); done)); clear k1; intro k1) | (with_reducible replace k1 := Blk.later hb (Blk.set (Blk.set k1))) | (with_reducible replace k1 := Blk.later hb (Blk.set k1))); clear a1 b1; obtain ⟨a1, b1⟩ := k1.read; have zl := k1.lt)); (try (have zk := k2.lt; (first | ((with_reducible refine Blk.keepG hb k2 (fun h => ?_) ?_); (focus ((repeat' (first | (with_reducible assumption) | ((with_reducible refine Blk.new ?_); first | rfl | (simp; done)) | (with_reducible refine Blk.later (by assumption) ?_) | (with_reducible refine Blk.alloc ?_) | (with_reducible refine Blk.drewN ?_) | (with_reducible refine Blk.drew ?_) | (with_reducible refine Blk.other ?_ (by first | omega | (simp; done) | (simp; omega))))); done)); clear k2; intro k2) | (with_reducible replace k2 := Blk.later hb (Blk.set (Blk.set k2))) | (with_reducible replace k2 := Blk.later hb (Blk.set k2))); clear a2 b2; obtain ⟨a2, b2⟩ := k2.read; have zl := k2.lt)); (first | (have zk := kn.lt; (first | ((with_reducible refine Blk.keepG hb kn (fun h => ?_) ?_); (focus ((repeat' (first | (with_reducible assumption) | ((with_reducible refine Blk.new ?_); first | rfl | (simp; done)) | (with_reducible refine Blk.later (by assumption) ?_) | (with_reducible refine Blk.alloc ?_) | (with_reducible refine Blk.drewN ?_) | (with_reducible refine Blk.drew ?_) | (with_reducible refine Blk.other ?_ (by first | omega | (simp; done) | (simp; omega))))); done)); clear kn; intro kn) | (with_reducible replace kn := Blk.later hb (Blk.set (Blk.set kn))) | (with_reducible replace kn := Blk.later hb (Blk.set kn))); clear an bn; obtain ⟨an, bn⟩ := kn.read; have zl := kn.lt) | ((first | (with_reducible have kn := Blk.later hb (Blk.new rfl)) | (with_reducible have kn := Blk.later hb (Blk.drew (Blk.new rfl))) | (with_reducible have kn := Blk.later hb (Blk.drewN (Blk.new rfl)))); (try simp only [World.size_alloc, World.size_drew, World.heap_drewN] at kn); obtain ⟨an, bn⟩ := kn.read; have zl := kn.lt) | skip)))
        go_roundw
        case rel =>
          refine ⟨k + 1, hlt, by go_num, ?_, ?_, by (repeat' (first | (with_reducible exact Below.refl _ _) | (with_reducible assumption) | (with_reducible refine belowThru ?_ (by assumption)) | (with_reducible refine belowAlloc ?_) | (with_reducible refine Below.setCell ?_ (by first | omega | (simp; done) | (simp; omega)) _) | (with_reducible refine Below.drew ?_) | (with_reducible refine below_drewN ?_ _)))⟩
          · rw [e1.out, e2.out]
            exact Blk.set (Blk.set k2)
          · (repeat' (first | (with_reducible assumption) | ((with_reducible refine Blk.new ?_); first | rfl | (simp; done)) | (with_reducible refine Blk.later (by assumption) ?_) | (with_reducible refine Blk.alloc ?_) | (with_reducible refine Blk.drewN ?_) | (with_reducible refine Blk.drew ?_) | (with_reducible refine Blk.other ?_ (by first | omega | (simp; done) | (simp; omega)))))
        case measure => simp [intOf]; omega
      · have e1 : Hid (loQ m (xs.take (k + 1)) = loQ m (xs.take k)) := by show _ = _; rw [HT.out, loQ_snoc, if_neg (fun h => h1 (ordQ_lt.2 h))]
        have e2 : Hid (hiQ m (xs.take (k + 1)) = hiQ m (xs.take k)) := by show _ = _; rw [HT.out, hiQ_snoc, if_neg (fun h => h2 (ordQ_gt.2 h))]
        go_wp2_with (first
          | (go_at_call 81; (with_reducible refine (H1.out _).mono ?_); rintro e w1 ⟨rfl, hb⟩; (try (have zk := k1.lt; (first | ((with_reducible refine Blk.keepG hb k1 (fun h => ?_) ?_); (focus ((repeat' (first | (with_reducible assumption) | ((with_reducible refine Blk.new ?_); first | rfl | (simp; done)) | (with_reducible refine Blk.later (by assumption) ?_) | (with_reducible refine Blk.alloc ?_) | (with_reducible refine Blk.drewN ?_) | (with_reducible refine Blk.drew ?_) | (with_reducible refine Blk.other ?_ (by first | omega | (simp; done) | (simp; omega))))); done)); clear k1; intro k1) | (with_reducible replace k1 := Blk.later hb (Blk.set (Blk.set k1))) | (with_reducible replace k1 := Blk.later hb (Blk.set k1))); clear a1 b1; obtain ⟨a1, b1⟩ := k1.read; have zl := k1.lt)); (try (have zk := k2.lt; (first | ((with_reducible refine Blk.keepG hb k2 (fun h => ?_) ?_); (focus ((repeat' (first | (with_reducible assumption) | ((with_reducible refine Blk.new ?_); first | rfl | (simp; done)) | (with_reducible refine Blk.later (by assumption) ?_) | (with_reducible refine Blk.alloc ?_) | (with_reducible refine Blk.drewN ?_) | (with_reducible refine Blk.drew ?_) | (with_reducible refine Blk.other ?_ (by first | omega | (simp; done) | (simp; omega))))); done)); clear k2; intro k2) | (with_reducible replace k2 := Blk.later hb (Blk.set (Blk.set k2))) | (with_reducible replace k2 := Blk.later hb (Blk.set k2))); clear a2 b2; obtain ⟨a2, b2⟩ := k2.read; have zl := k2.lt)); (first | (have zk := kn.lt; (first | ((with_reducible refine Blk.keepG hb kn (fun h => ?_) ?_); (focus ((repeat' (first | (with_reducible assumption) | ((with_reducible refine Blk.new ?_); first | rfl | (simp; done)) | (with_reducible refine Blk.later (by assumption) ?_) | (with_reducible refine Blk.alloc ?_) | (with_reducible refine Blk.drewN ?_) | (with_reducible refine Blk.drew ?_) | (with_reducible refine Blk.other ?_ (by first | omega | (simp; done) | (simp; omega))))); done)); clear kn; intro kn) | (with_reducible replace kn := Blk.later hb (Blk.set (Blk.set kn))) | (with_reducible replace kn := Blk.later hb (Blk.set kn))); clear an bn; obtain ⟨an, bn⟩ := kn.read; have zl := kn.lt) | ((first | (with_reducible have kn := Blk.later hb (Blk.new rfl)) | (with_reducible have kn := Blk.later hb (Blk.drew (Blk.new rfl))) | (with_reducible have kn := Blk.later hb (Blk.drewN (Blk.new rfl)))); (try simp only [World.size_alloc, World.size_drew, World.heap_drewN] at kn); obtain ⟨an, bn⟩ := kn.read; have zl := kn.lt) | skip))
          | (go_at_call 81; (with_reducible refine (H2.out _).mono ?_); rintro e w1 ⟨rfl, hb⟩; (try (have zk := k1.lt; (first | ((with_reducible refine Blk.keepG hb k1 (fun h => ?_) ?_); (focus ((repeat' (first | (with_reducible assumption) | ((with_reducible refine Blk.new ?_); first | rfl | (simp; done)) | (with_reducible refine Blk.later (by assumption) ?_) | (with_reducible refine Blk.alloc ?_) | (with_reducible refine Blk.drewN ?_) | (with_reducible refine Blk.drew ?_) | (with_reducible refine Blk.other ?_ (by first | omega | (simp; done) | (simp; omega))))); done)); clear k1; intro k1) | (with_reducible replace k1 := Blk.later hb (Blk.set (Blk.set k1))) | (with_reducible replace k1 := Blk.later hb (Blk.set k1))); clear a1 b1; obtain ⟨a1, b1⟩ := k1.read; have zl := k1.lt)); (try (have zk := k2.lt; (first | ((with_reducible refine Blk.keepG hb k2 (fun h => ?_) ?_); (focus ((repeat' (first | (with_reducible assumption) | ((with_reducible refine Blk.new ?_); first | rfl | (simp; done)) | (with_reducible refine Blk.later (by assumption) ?_) | (with_reducible refine Blk.alloc ?_) | (with_reducible refine Blk.drewN ?_) | (with_reducible refine Blk.drew ?_) | (with_reducible refine Blk.other ?_ (by first | omega | (simp; done) | (simp; omega))))); done)); clear k2; intro k2) | (with_reducible replace k2 := Blk.later hb (Blk.set (Blk.set k2))) | (with_reducible replace k2 := Blk.later hb (Blk.set k2))); clear a2 b2; obtain ⟨a2, b2⟩ := k2.read; have zl := k2.lt)); (first | (have zk := kn.lt; (first | ((with_reducible refine Blk.keepG hb kn (fun h => ?_) ?_); (focus ((repeat' (first | (with_reducible assumption) | ((with_reducible refine Blk.new ?_); first | rfl | (simp; done)) | (with_reducible refine Blk.later (by assumption) ?_) | (with_reducible refine Blk.alloc ?_) | (with_reducible refine Blk.drewN ?_) | (with_reducible refine Blk.drew ?_) | (with_reducible refine Blk.other ?_ (by first | omega | (simp; done) | (simp; omega))))); done)); clear kn; intro kn) | (with_reducible replace kn := Blk.later hb (Blk.set (Blk.set kn))) | (with_reducible replace kn := Blk.later hb (Blk.set kn))); clear an bn; obtain ⟨an, bn⟩ := kn.read; have zl := kn.lt) | ((first | (with_reducible have kn := Blk.later hb (Blk.new rfl)) | (with_reducible have kn := Blk.later hb (Blk.drew (Blk.new rfl))) | (with_reducible have kn := Blk.later hb (Blk.drewN (Blk.new rfl)))); (try simp only [World.size_alloc, World.size_drew, World.heap_drewN] at kn); obtain ⟨an, bn⟩ := kn.read; have zl := kn.lt) | skip)))
        go_roundw
        case rel =>
          refine ⟨k + 1, hlt, by go_num, ?_, ?_, by (repeat' (first | (with_reducible exact Below.refl _ _) | (with_reducible assumption) | (with_reducible refine belowThru ?_ (by assumption)) | (with_reducible refine belowAlloc ?_) | (with_reducible refine Below.setCell ?_ (by first | omega | (simp; done) | (simp; omega)) _) | (with_reducible refine Below.drew ?_) | (with_reducible refine below_drewN ?_ _)))⟩
          · rw [e1.out, e2.out]
            exact k2
          · (repeat' (first | (with_reducible assumption) | ((with_reducible refine Blk.new ?_); first | rfl | (simp; done)) | (with_reducible refine Blk.later (by assumption) ?_) | (with_reducible refine Blk.alloc ?_) | (with_reducible refine Blk.drewN ?_) | (with_reducible refine Blk.drew ?_) | (with_reducible refine Blk.other ?_ (by first | omega | (simp; done) | (simp; omega)))))
        case measure => simp [intOf]; omega
    · have HL := HN.out
      have e : xs.take k = xs := List.take_of_length_le (by omega)
      rw [e] at k2 a2
      clear HL e
      go_wp2
      exact bodyPost_ret (v := .agg #[.int .i64 (fn (loQ m xs)), .int .i64 (fd (loQ m xs)), .int .i64 (fn (hiQ m xs)), .int .i64 (fd (hiQ m xs))]) (by simp only [results, Try.results93]; go_simp) rfl ⟨rfl, by (repeat' (first | (with_reducible exact Below.refl _ _) | (with_reducible assumption) | (with_reducible refine belowThru ?_ (by assumption)) | (with_reducible refine belowAlloc ?_) | (with_reducible refine Below.setCell ?_ (by first | omega | (simp; done) | (simp; omega)) _) | (with_reducible refine Below.drew ?_) | (with_reducible refine below_drewN ?_ _)))⟩
end Go.Proofs.Ytdimmnoflenfhaa
/-
  Layer 1: valid enclosures; what they contain; sums and products of their ends.
-/
namespace Go.Proofs.Ytdimmnoflenfhaa
open Go.RowKit

/-- An enclosure is valid. -/
def okS (a b c d : Int) : Prop := ∃ q r : Rat, fits q ∧ fits r ∧ a = fn q ∧ b = fd q ∧ c = fn r ∧ d = fd r ∧ q ≤ r
/-- 0, or the error of an enclosure that is not valid. -/
noncomputable def ckS (a b c d : Int) : Int := @ite _ (okS a b c d) (Classical.propDecidable _) 0 8
theorem ckS_ok {q r : Rat} (hq : fits q) (hr : fits r) (h : q ≤ r) : ckS (fn q) (fd q) (fn r) (fd r) = 0 := by
  unfold ckS; exact @if_pos _ (Classical.propDecidable _) ⟨q, r, hq, hr, rfl, rfl, rfl, rfl, h⟩ _ _ _
theorem ckS_no {a b c d : Int} (h : ¬ okS a b c d) : ckS a b c d = 8 := by
  unfold ckS; exact @if_neg _ (Classical.propDecidable _) h _ _ _
theorem ckS_cases (a b c d : Int) : (okS a b c d ∧ ckS a b c d = 0) ∨ (¬ okS a b c d ∧ ckS a b c d = 8) := by
  by_cases h : okS a b c d
  · obtain ⟨q, r, hq, hr, rfl, rfl, rfl, rfl, hl⟩ := id h
    exact .inl ⟨h, ckS_ok hq hr hl⟩
  · exact .inr ⟨h, ckS_no h⟩

set_option maxHeartbeats 1000000 in
theorem checkSpan_two (q r : Rat) (hq : fits q) (hr : fits r) (v : Int) (hv : Hid (v = if ordQ q r ≤ 0 then 0 else 8)) (w : World) :
    Calls Try.prog 46 #[.agg #[.int .i64 (fn q), .int .i64 (fd q), .int .i64 (fn r), .int .i64 (fd r)]] w fun e w' => e = .returned (.int .i64 v) ∧ Below w.heap.size w w' := by
  have HC := Lib.hid (order_q q r hq hr)
  have hd : (ck2 (fn q) (fd q) (fn r) (fd r) != 0) = false := by rw [ck2_ok hq hr]; rfl
  clear hq hr
  by_cases h : ordQ q r ≤ 0
  · have hv' := hv.out
    rw [if_pos h] at hv'
    subst hv'
    clear hv
    go_enter Try.func46, Try.ntmps46
    go_wp2_with (first
      | (go_at_call 80; (with_reducible refine (checkAll_two (fn q) (fd q) (fn r) (fd r) _ _ (by simp [go_sem]) (by simp [go_sem]) (by simp [go_sem]) (by simp [go_sem])).mono ?_); rintro e w1 ⟨rfl, hb⟩; obtain ⟨hc, hf⟩ := bcell hb; (try simp only [World.heap_drewN] at hc hf); (try simp only [heap_drew] at hc hf); have hz := hb.size; (try simp at hz); try (have hz0 : w.heap.size < w1.heap.size := by omega); try (have hz1 : w.heap.size + 1 < w1.heap.size := by omega); try (have hz2 : w.heap.size + 1 + 1 < w1.heap.size := by omega); try (have hz3 : w.heap.size + 1 + 1 + 1 < w1.heap.size := by omega); try (have hz4 : w.heap.size + 1 + 1 + 1 + 1 < w1.heap.size := by omega); try (have hz5 : w.heap.size + 1 + 1 + 1 + 1 + 1 < w1.heap.size := by omega))
      | (go_at_call 81; (with_reducible refine (HC.out _).mono ?_); rintro e w1 ⟨rfl, hb⟩; obtain ⟨hc, hf⟩ := bcell hb; (try simp only [World.heap_drewN] at hc hf); (try simp only [heap_drew] at hc hf); have hz := hb.size; (try simp at hz); try (have hz0 : w.heap.size < w1.heap.size := by omega); try (have hz1 : w.heap.size + 1 < w1.heap.size := by omega); try (have hz2 : w.heap.size + 1 + 1 < w1.heap.size := by omega); try (have hz3 : w.heap.size + 1 + 1 + 1 < w1.heap.size := by omega); try (have hz4 : w.heap.size + 1 + 1 + 1 + 1 < w1.heap.size := by omega); try (have hz5 : w.heap.size + 1 + 1 + 1 + 1 + 1 < w1.heap.size := by omega)))
    go_ret
    exact ⟨rfl, by (repeat' (first | (with_reducible exact Below.refl _ _) | (with_reducible assumption) | (with_reducible refine belowThru ?_ (by assumption)) | (with_reducible refine belowAlloc ?_) | (with_reducible refine Below.setCell ?_ (by first | omega | (simp; done) | (simp; omega)) _) | (with_reducible refine Below.drew ?_) | (with_reducible refine below_drewN ?_ _)))⟩
  · have hv' := hv.out
    rw [if_neg h] at hv'
    subst hv'
    clear hv
    go_enter Try.func46, Try.ntmps46
    go_wp2_with (first
      | (go_at_call 80; (with_reducible refine (checkAll_two (fn q) (fd q) (fn r) (fd r) _ _ (by simp [go_sem]) (by simp [go_sem]) (by simp [go_sem]) (by simp [go_sem])).mono ?_); rintro e w1 ⟨rfl, hb⟩; obtain ⟨hc, hf⟩ := bcell hb; (try simp only [World.heap_drewN] at hc hf); (try simp only [heap_drew] at hc hf); have hz := hb.size; (try simp at hz); try (have hz0 : w.heap.size < w1.heap.size := by omega); try (have hz1 : w.heap.size + 1 < w1.heap.size := by omega); try (have hz2 : w.heap.size + 1 + 1 < w1.heap.size := by omega); try (have hz3 : w.heap.size + 1 + 1 + 1 < w1.heap.size := by omega); try (have hz4 : w.heap.size + 1 + 1 + 1 + 1 < w1.heap.size := by omega); try (have hz5 : w.heap.size + 1 + 1 + 1 + 1 + 1 < w1.heap.size := by omega))
      | (go_at_call 81; (with_reducible refine (HC.out _).mono ?_); rintro e w1 ⟨rfl, hb⟩; obtain ⟨hc, hf⟩ := bcell hb; (try simp only [World.heap_drewN] at hc hf); (try simp only [heap_drew] at hc hf); have hz := hb.size; (try simp at hz); try (have hz0 : w.heap.size < w1.heap.size := by omega); try (have hz1 : w.heap.size + 1 < w1.heap.size := by omega); try (have hz2 : w.heap.size + 1 + 1 < w1.heap.size := by omega); try (have hz3 : w.heap.size + 1 + 1 + 1 < w1.heap.size := by omega); try (have hz4 : w.heap.size + 1 + 1 + 1 + 1 < w1.heap.size := by omega); try (have hz5 : w.heap.size + 1 + 1 + 1 + 1 + 1 < w1.heap.size := by omega)))
    go_ret
    exact ⟨rfl, by (repeat' (first | (with_reducible exact Below.refl _ _) | (with_reducible assumption) | (with_reducible refine belowThru ?_ (by assumption)) | (with_reducible refine belowAlloc ?_) | (with_reducible refine Below.setCell ?_ (by first | omega | (simp; done) | (simp; omega)) _) | (with_reducible refine Below.drew ?_) | (with_reducible refine below_drewN ?_ _)))⟩

set_option maxHeartbeats 1000000 in
theorem checkSpan_parts (a b c d : Int) (h : ¬ (okF a b ∧ okF c d)) (w : World) :
    Calls Try.prog 46 #[.agg #[.int .i64 a, .int .i64 b, .int .i64 c, .int .i64 d]] w fun e w' => e = .returned (.int .i64 8) ∧ Below w.heap.size w w' := by
  have he : ck2 a b c d = 8 := ck2_no h
  have HC : Hid (∀ B (w : World), w.cell? ⟨B, 0, none⟩ = some (.int .i64 a) → w.cell? ⟨B, 1, none⟩ = some (.int .i64 b) → w.cell? ⟨B, 2, none⟩ = some (.int .i64 c) → w.cell? ⟨B, 3, none⟩ = some (.int .i64 d) →
      Calls Try.prog 80 #[.slice (some ⟨B, 0, none⟩) 2 2] w fun e w' => e = .returned (.int .i64 8) ∧ Below w.heap.size w w') := by
    intro B w h0 h1 h2 h3; have := checkAll_two a b c d B w h0 h1 h2 h3; rw [he] at this; exact this
  clear he h
  go_enter Try.func46, Try.ntmps46
  go_wp2_with (go_at_call 80; (with_reducible refine (HC.out _ _ (by simp [go_sem]) (by simp [go_sem]) (by simp [go_sem]) (by simp [go_sem])).mono ?_); rintro e w1 ⟨rfl, hb⟩; obtain ⟨hc, hf⟩ := bcell hb; (try simp only [World.heap_drewN] at hc hf); (try simp only [heap_drew] at hc hf); have hz := hb.size; (try simp at hz); try (have hz0 : w.heap.size < w1.heap.size := by omega); try (have hz1 : w.heap.size + 1 < w1.heap.size := by omega); try (have hz2 : w.heap.size + 1 + 1 < w1.heap.size := by omega); try (have hz3 : w.heap.size + 1 + 1 + 1 < w1.heap.size := by omega); try (have hz4 : w.heap.size + 1 + 1 + 1 + 1 < w1.heap.size := by omega); try (have hz5 : w.heap.size + 1 + 1 + 1 + 1 + 1 < w1.heap.size := by omega))
  go_ret
  exact ⟨rfl, by (repeat' (first | (with_reducible exact Below.refl _ _) | (with_reducible assumption) | (with_reducible refine belowThru ?_ (by assumption)) | (with_reducible refine belowAlloc ?_) | (with_reducible refine Below.setCell ?_ (by first | omega | (simp; done) | (simp; omega)) _) | (with_reducible refine Below.drew ?_) | (with_reducible refine below_drewN ?_ _)))⟩

theorem checkSpan_any (a b c d : Int) (w : World) :
    Calls Try.prog 46 #[.agg #[.int .i64 a, .int .i64 b, .int .i64 c, .int .i64 d]] w fun e w' => e = .returned (.int .i64 (ckS a b c d)) ∧ Below w.heap.size w w' := by
  by_cases h : okF a b ∧ okF c d
  · obtain ⟨h1, h2⟩ := h
    obtain ⟨q, hq, rfl, rfl⟩ := (okF_iff _ _).1 h1
    obtain ⟨r, hr, rfl, rfl⟩ := (okF_iff _ _).1 h2
    refine checkSpan_two q r hq hr _ ?_ w
    show _ = _
    by_cases k : ordQ q r ≤ 0
    · rw [if_pos k]; exact ckS_ok hq hr (ordQ_le.1 k)
    · rw [if_neg k]
      refine ckS_no ?_
      rintro ⟨q', r', hq', hr', e1, e2, e3, e4, hl⟩
      rw [q_ext e1 e2, q_ext e3 e4] at k
      exact k (ordQ_le.2 hl)
  · rw [ckS_no ?_]
    · exact checkSpan_parts a b c d h w
    · rintro ⟨q, r, hq, hr, rfl, rfl, rfl, rfl, -⟩
      exact h ⟨okF_q hq, okF_q hr⟩

/-- How far a list of enclosures has been checked. -/
def Far2 (a b c d a' b' c' d' : Int) (i : Value) : Prop := i = .int .i64 0 ∨ (i = .int .i64 1 ∧ okS a b c d) ∨ (i = .int .i64 2 ∧ okS a b c d ∧ okS a' b' c' d')
noncomputable def ckS2 (a b c d a' b' c' d' : Int) : Int := if ckS a b c d = 0 then ckS a' b' c' d' else 8
theorem okS_ck {a b c d : Int} (h : okS a b c d) : ckS a b c d = 0 := by
  obtain ⟨q, r, hq, hr, rfl, rfl, rfl, rfl, hl⟩ := h; exact ckS_ok hq hr hl

set_option maxHeartbeats 2000000 in
theorem checkSpans_2 (a b c d a' b' c' d' : Int) (B : Nat) (w : World) (h0 : w.cell? ⟨B, 0, none⟩ = some (.int .i64 a)) (h1 : w.cell? ⟨B, 1, none⟩ = some (.int .i64 b)) (h2 : w.cell? ⟨B, 2, none⟩ = some (.int .i64 c)) (h3 : w.cell? ⟨B, 3, none⟩ = some (.int .i64 d)) (h4 : w.cell? ⟨B, 4, none⟩ = some (.int .i64 a')) (h5 : w.cell? ⟨B, 5, none⟩ = some (.int .i64 b')) (h6 : w.cell? ⟨B, 6, none⟩ = some (.int .i64 c')) (h7 : w.cell? ⟨B, 7, none⟩ = some (.int .i64 d')) :
    Calls Try.prog 86 #[.slice (some ⟨B, 0, none⟩) 2 2] w fun e w' => e = .returned (.int .i64 (ckS2 a b c d a' b' c' d')) ∧ Below w.heap.size w w' := by
  have HB : B < w.heap.size := World.block_lt_of_cell? w ⟨B, 0, none⟩ h0
  go_enter Try.func86, Try.ntmps86
  go_wp2
  go_loopw [8] (fun i wr => Far2 a b c d a' b' c' d' i ∧ Below w.heap.size w wr) (fun i _ => (2 - intOf i).toNat)
  case atStart => exact ⟨Or.inl rfl, Below.refl _ _⟩
  case round =>
    obtain ⟨hi, hb0⟩ := hrel
    have g0 := cell_later (hb0.mono (Nat.le_refl _)) h0
    have g1 := cell_later (hb0.mono (Nat.le_refl _)) h1
    have g2 := cell_later (hb0.mono (Nat.le_refl _)) h2
    have g3 := cell_later (hb0.mono (Nat.le_refl _)) h3
    have g4 := cell_later (hb0.mono (Nat.le_refl _)) h4
    have g5 := cell_later (hb0.mono (Nat.le_refl _)) h5
    have g6 := cell_later (hb0.mono (Nat.le_refl _)) h6
    have g7 := cell_later (hb0.mono (Nat.le_refl _)) h7
    have hz := hb0.size
    clear h0 h1 h2 h3 h4 h5 h6 h7
    rcases hi with rfl | ⟨rfl, ha⟩ | ⟨rfl, ha, hc⟩
    · rcases ckS_cases a b c d with ⟨ho, e⟩ | ⟨ho, e⟩
      · have hd : (ckS a b c d != 0) = false := by rw [e]; rfl
        clear e
        go_wp2_with (go_at_call 46; (with_reducible refine (checkSpan_any a b c d _).mono ?_); rintro e w1 ⟨rfl, hb⟩)
        go_roundw
        case rel => exact ⟨Or.inr (Or.inl ⟨rfl, ho⟩), by (repeat' (first | (with_reducible exact Below.refl _ _) | (with_reducible assumption) | (with_reducible refine belowThru ?_ (by assumption)) | (with_reducible refine belowAlloc ?_) | (with_reducible refine Below.setCell ?_ (by first | omega | (simp; done) | (simp; omega)) _) | (with_reducible refine Below.drew ?_) | (with_reducible refine below_drewN ?_ _)))⟩
        case measure => simp [intOf]
      · have hd : (ckS a b c d != 0) = true := by rw [e]; rfl
        have he : Hid (ckS a b c d = ckS2 a b c d a' b' c' d') := by show _ = _; rw [e]; exact (if_neg (by rw [e]; decide)).symm
        clear e
        go_wp2_with (go_at_call 46; (with_reducible refine (checkSpan_any a b c d _).mono ?_); rintro e w1 ⟨rfl, hb⟩)
        go_ret
        rw [← he.out]
        exact ⟨rfl, by (repeat' (first | (with_reducible exact Below.refl _ _) | (with_reducible assumption) | (with_reducible refine belowThru ?_ (by assumption)) | (with_reducible refine belowAlloc ?_) | (with_reducible refine Below.setCell ?_ (by first | omega | (simp; done) | (simp; omega)) _) | (with_reducible refine Below.drew ?_) | (with_reducible refine below_drewN ?_ _)))⟩
    · rcases ckS_cases a' b' c' d' with ⟨ho, e⟩ | ⟨ho, e⟩
      · have hd : (ckS a' b' c' d' != 0) = false := by rw [e]; rfl
        clear e
        go_wp2_with (go_at_call 46; (with_reducible refine (checkSpan_any a' b' c' d' _).mono ?_); rintro e w1 ⟨rfl, hb⟩)
        go_roundw
        case rel => exact ⟨Or.inr (Or.inr ⟨rfl, ha, ho⟩), by (repeat' (first | (with_reducible exact Below.refl _ _) | (with_reducible assumption) | (with_reducible refine belowThru ?_ (by assumption)) | (with_reducible refine belowAlloc ?_) | (with_reducible refine Below.setCell ?_ (by first | omega | (simp; done) | (simp; omega)) _) | (with_reducible refine Below.drew ?_) | (with_reducible refine below_drewN ?_ _)))⟩
        case measure => simp [intOf]
      · have hd : (ckS a' b' c' d' != 0) = true := by rw [e]; rfl
        have he : Hid (ckS a' b' c' d' = ckS2 a b c d a' b' c' d') := by show _ = _; exact (if_pos (okS_ck ha)).symm
        clear e
        go_wp2_with (go_at_call 46; (with_reducible refine (checkSpan_any a' b' c' d' _).mono ?_); rintro e w1 ⟨rfl, hb⟩)
        go_ret
        rw [← he.out]
        exact ⟨rfl, by (repeat' (first | (with_reducible exact Below.refl _ _) | (with_reducible assumption) | (with_reducible refine belowThru ?_ (by assumption)) | (with_reducible refine belowAlloc ?_) | (with_reducible refine Below.setCell ?_ (by first | omega | (simp; done) | (simp; omega)) _) | (with_reducible refine Below.drew ?_) | (with_reducible refine below_drewN ?_ _)))⟩
    · have he : Hid (0 = ckS2 a b c d a' b' c' d') := by show _ = _; exact ((if_pos (okS_ck ha)).trans (okS_ck hc)).symm
      go_wp2
      go_ret
      rw [← he.out]
      exact ⟨rfl, hb0⟩

end Go.Proofs.Ytdimmnoflenfhaa
/-
  Layer 1: the enclosures that the operations make of ends.
-/
namespace Go.Proofs.Ytdimmnoflenfhaa
open Go.RowKit

theorem re_yes {x : Rat} (h : fits x) : re x = 0 := if_pos h
theorem rn_yes {x : Rat} (h : fits x) : rn x = fn x := if_pos h
theorem rd_yes {x : Rat} (h : fits x) : rd x = fd x := if_pos h

end Go.Proofs.Ytdimmnoflenfhaa
/-
  Layer 1: the calls on enclosures, for any enclosures.
-/
namespace Go.Proofs.Ytdimmnoflenfhaa
open Go.RowKit

theorem ckS2_ok {a b c d a' b' c' d' : Int} (h1 : okS a b c d) (h2 : okS a' b' c' d') : ckS2 a b c d a' b' c' d' = 0 := (if_pos (okS_ck h1)).trans (okS_ck h2)
set_option maxHeartbeats 1000000 in
theorem join_q (l h m k : Rat) (fl : fits l) (fh : fits h) (fm : fits m) (fk : fits k) (hlh : l ≤ h) (hmk : m ≤ k) (w : World) :
    Calls Try.prog 74 #[.agg #[.int .i64 (fn l), .int .i64 (fd l), .int .i64 (fn h), .int .i64 (fd h)], .agg #[.int .i64 (fn m), .int .i64 (fd m), .int .i64 (fn k), .int .i64 (fd k)]] w fun e w' => e = .returned (.tuple #[.agg #[.int .i64 (fn (loQ l [h, m, k])), .int .i64 (fd (loQ l [h, m, k])), .int .i64 (fn (hiQ l [h, m, k])), .int .i64 (fd (hiQ l [h, m, k]))], .int .i64 0]) ∧ Below w.heap.size w w' := by
  have hd : (ckS2 (fn l) (fd l) (fn h) (fd h) (fn m) (fd m) (fn k) (fd k) != 0) = false := (by rw [ckS2_ok ⟨l, h, fl, fh, rfl, rfl, rfl, rfl, hlh⟩ ⟨m, k, fm, fk, rfl, rfl, rfl, rfl, hmk⟩]; rfl)
  have HU := Lib.hid (fun B => hull_any l [h, m, k] fl (by intro x hx; simp at hx; rcases hx with rfl | rfl | rfl <;> assumption) B 0 3 3 rfl (by omega) (by omega))
  clear fl fh fm fk hlh hmk
  go_enter Try.func74, Try.ntmps74
  go_wp2_with (first
    | (go_at_call 86; (with_reducible refine (checkSpans_2 (fn l) (fd l) (fn h) (fd h) (fn m) (fd m) (fn k) (fd k) _ _ (by simp [go_sem]) (by simp [go_sem]) (by simp [go_sem]) (by simp [go_sem]) (by simp [go_sem]) (by simp [go_sem]) (by simp [go_sem]) (by simp [go_sem])).mono ?_); rintro e w1 ⟨rfl, hb⟩; (first | ((with_reducible have k0 := Blk.later hb (Blk.alloc (Blk.alloc (Blk.alloc (Blk.new rfl))))); (with_reducible have k1 := Blk.later hb (Blk.alloc (Blk.alloc (Blk.new rfl)))); (with_reducible have k2 := Blk.later hb (Blk.alloc (Blk.new rfl))); (with_reducible have k3 := Blk.later hb (Blk.new rfl)); simp only [World.size_alloc] at k1 k2 k3; obtain ⟨a0, b0⟩ := k0.read; have zl := k0.lt; obtain ⟨a1, b1⟩ := k1.read; have zl := k1.lt; obtain ⟨a2, b2⟩ := k2.read; have zl := k2.lt; obtain ⟨a3, b3⟩ := k3.read; have zl := k3.lt) | ((try (have zk := k0.lt; (first | ((with_reducible refine Blk.keepG hb k0 (fun h => ?_) ?_); (focus ((repeat' (first | (with_reducible assumption) | ((with_reducible refine Blk.new ?_); first | rfl | (simp; done)) | (with_reducible refine Blk.later (by assumption) ?_) | (with_reducible refine Blk.alloc ?_) | (with_reducible refine Blk.drewN ?_) | (with_reducible refine Blk.drew ?_) | (with_reducible refine Blk.other ?_ (by first | omega | (simp; done) | (simp; omega))))); done)); clear k0; intro k0) | (with_reducible replace k0 := Blk.later hb (Blk.set (Blk.set k0))) | (with_reducible replace k0 := Blk.later hb (Blk.set k0))); clear a0 b0; obtain ⟨a0, b0⟩ := k0.read; have zl := k0.lt)); (try (have zk := k1.lt; (first | ((with_reducible refine Blk.keepG hb k1 (fun h => ?_) ?_); (focus ((repeat' (first | (with_reducible assumption) | ((with_reducible refine Blk.new ?_); first | rfl | (simp; done)) | (with_reducible refine Blk.later (by assumption) ?_) | (with_reducible refine Blk.alloc ?_) | (with_reducible refine Blk.drewN ?_) | (with_reducible refine Blk.drew ?_) | (with_reducible refine Blk.other ?_ (by first | omega | (simp; done) | (simp; omega))))); done)); clear k1; intro k1) | (with_reducible replace k1 := Blk.later hb (Blk.set (Blk.set k1))) | (with_reducible replace k1 := Blk.later hb (Blk.set k1))); clear a1 b1; obtain ⟨a1, b1⟩ := k1.read; have zl := k1.lt)); (try (have zk := k2.lt; (first | ((with_reducible refine Blk.keepG hb k2 (fun h => ?_) ?_); (focus ((repeat' (first | (with_reducible assumption) | ((with_reducible refine Blk.new ?_); first | rfl | (simp; done)) | (with_reducible refine Blk.later (by assumption) ?_) | (with_reducible refine Blk.alloc ?_) | (with_reducible refine Blk.drewN ?_) | (with_reducible refine Blk.drew ?_) | (with_reducible refine Blk.other ?_ (by first | omega | (simp; done) | (simp; omega))))); done)); clear k2; intro k2) | (with_reducible replace k2 := Blk.later hb (Blk.set (Blk.set k2))) | (with_reducible replace k2 := Blk.later hb (Blk.set k2))); clear a2 b2; obtain ⟨a2, b2⟩ := k2.read; have zl := k2.lt)); (try (have zk := k3.lt; (first | ((with_reducible refine Blk.keepG hb k3 (fun h => ?_) ?_); (focus ((repeat' (first | (with_reducible assumption) | ((with_reducible refine Blk.new ?_); first | rfl | (simp; done)) | (with_reducible refine Blk.later (by assumption) ?_) | (with_reducible refine Blk.alloc ?_) | (with_reducible refine Blk.drewN ?_) | (with_reducible refine Blk.drew ?_) | (with_reducible refine Blk.other ?_ (by first | omega | (simp; done) | (simp; omega))))); done)); clear k3; intro k3) | (with_reducible replace k3 := Blk.later hb (Blk.set (Blk.set k3))) | (with_reducible replace k3 := Blk.later hb (Blk.set k3))); clear a3 b3; obtain ⟨a3, b3⟩ := k3.read; have zl := k3.lt)))))
    | (go_at_call 93; (with_reducible refine (HU.out _ _ ?_).mono ?_); (focus (intro i hi; obtain rfl | rfl | rfl : i = 0 ∨ i = 1 ∨ i = 2 := (by omega); all_goals (simp [go_sem]; done))); rintro e w1 ⟨rfl, hb⟩; (try (have zk := k0.lt; (first | ((with_reducible refine Blk.keepG hb k0 (fun h => ?_) ?_); (focus ((repeat' (first | (with_reducible assumption) | ((with_reducible refine Blk.new ?_); first | rfl | (simp; done)) | (with_reducible refine Blk.later (by assumption) ?_) | (with_reducible refine Blk.alloc ?_) | (with_reducible refine Blk.drewN ?_) | (with_reducible refine Blk.drew ?_) | (with_reducible refine Blk.other ?_ (by first | omega | (simp; done) | (simp; omega))))); done)); clear k0; intro k0) | (with_reducible replace k0 := Blk.later hb (Blk.set (Blk.set k0))) | (with_reducible replace k0 := Blk.later hb (Blk.set k0))); clear a0 b0; obtain ⟨a0, b0⟩ := k0.read; have zl := k0.lt)); (try (have zk := k1.lt; (first | ((with_reducible refine Blk.keepG hb k1 (fun h => ?_) ?_); (focus ((repeat' (first | (with_reducible assumption) | ((with_reducible refine Blk.new ?_); first | rfl | (simp; done)) | (with_reducible refine Blk.later (by assumption) ?_) | (with_reducible refine Blk.alloc ?_) | (with_reducible refine Blk.drewN ?_) | (with_reducible refine Blk.drew ?_) | (with_reducible refine Blk.other ?_ (by first | omega | (simp; done) | (simp; omega))))); done)); clear k1; intro k1) | (with_reducible replace k1 := Blk.later hb (Blk.set (Blk.set k1))) | (with_reducible replace k1 := Blk.later hb (Blk.set k1))); clear a1 b1; obtain ⟨a1, b1⟩ := k1.read; have zl := k1.lt)); (try (have zk := k2.lt; (first | ((with_reducible refine Blk.keepG hb k2 (fun h => ?_) ?_); (focus ((repeat' (first | (with_reducible assumption) | ((with_reducible refine Blk.new ?_); first | rfl | (simp; done)) | (with_reducible refine Blk.later (by assumption) ?_) | (with_reducible refine Blk.alloc ?_) | (with_reducible refine Blk.drewN ?_) | (with_reducible refine Blk.drew ?_) | (with_reducible refine Blk.other ?_ (by first | omega | (simp; done) | (simp; omega))))); done)); clear k2; intro k2) | (with_reducible replace k2 := Blk.later hb (Blk.set (Blk.set k2))) | (with_reducible replace k2 := Blk.later hb (Blk.set k2))); clear a2 b2; obtain ⟨a2, b2⟩ := k2.read; have zl := k2.lt)); (try (have zk := k3.lt; (first | ((with_reducible refine Blk.keepG hb k3 (fun h => ?_) ?_); (focus ((repeat' (first | (with_reducible assumption) | ((with_reducible refine Blk.new ?_); first | rfl | (simp; done)) | (with_reducible refine Blk.later (by assumption) ?_) | (with_reducible refine Blk.alloc ?_) | (with_reducible refine Blk.drewN ?_) | (with_reducible refine Blk.drew ?_) | (with_reducible refine Blk.other ?_ (by first | omega | (simp; done) | (simp; omega))))); done)); clear k3; intro k3) | (with_reducible replace k3 := Blk.later hb (Blk.set (Blk.set k3))) | (with_reducible replace k3 := Blk.later hb (Blk.set k3))); clear a3 b3; obtain ⟨a3, b3⟩ := k3.read; have zl := k3.lt)); (first | (have zk := kn.lt; (first | ((with_reducible refine Blk.keepG hb kn (fun h => ?_) ?_); (focus ((repeat' (first | (with_reducible assumption) | ((with_reducible refine Blk.new ?_); first | rfl | (simp; done)) | (with_reducible refine Blk.later (by assumption) ?_) | (with_reducible refine Blk.alloc ?_) | (with_reducible refine Blk.drewN ?_) | (with_reducible refine Blk.drew ?_) | (with_reducible refine Blk.other ?_ (by first | omega | (simp; done) | (simp; omega))))); done)); clear kn; intro kn) | (with_reducible replace kn := Blk.later hb (Blk.set (Blk.set kn))) | (with_reducible replace kn := Blk.later hb (Blk.set kn))); clear an bn; obtain ⟨an, bn⟩ := kn.read; have zl := kn.lt) | ((first | (with_reducible have kn := Blk.later hb (Blk.new rfl)) | (with_reducible have kn := Blk.later hb (Blk.drew (Blk.new rfl))) | (with_reducible have kn := Blk.later hb (Blk.drewN (Blk.new rfl)))); (try simp only [World.size_alloc, World.size_drew, World.heap_drewN] at kn); obtain ⟨an, bn⟩ := kn.read; have zl := kn.lt) | skip)))
  exact bodyPost_ret (v := .tuple #[.agg #[.int .i64 (fn (loQ l [h, m, k])), .int .i64 (fd (loQ l [h, m, k])), .int .i64 (fn (hiQ l [h, m, k])), .int .i64 (fd (hiQ l [h, m, k]))], .int .i64 0]) (by simp only [results, Try.results74]; go_simp) rfl ⟨rfl, by (repeat' (first | (with_reducible exact Below.refl _ _) | (with_reducible assumption) | (with_reducible refine belowThru ?_ (by assumption)) | (with_reducible refine belowAlloc ?_) | (with_reducible refine Below.setCell ?_ (by first | omega | (simp; done) | (simp; omega)) _) | (with_reducible refine Below.drew ?_) | (with_reducible refine below_drewN ?_ _)))⟩

end Go.Proofs.Ytdimmnoflenfhaa
/-
  A region that draws its order, by what holds whichever operations have come up: one step an operation, whatever the orders.
-/
namespace Go.Proofs.Ytdimmnoflenfhaa
open Go.RowKit

variable {P : Program} {ops : Array Oper} {Q : Exit → Act → World → Prop}

theorem inv_mem {L : Array Bool} {i : Nat} (h : i ∈ Region.ready .any ops L) : i < ops.size ∧ L.getD i true = false ∧ ∃ o, ops[i]? = some o ∧ ∀ e ∈ o.after, Region.binds .any e = true → L.getD e.on false = true := by
  unfold Region.ready at h
  rw [List.mem_filter, List.mem_range, Bool.and_eq_true] at h
  obtain ⟨h1, h2, h3⟩ := h
  refine ⟨h1, by simpa using h2, ops[i], by simp [h1], fun e he hb => ?_⟩
  rw [Array.getElem?_eq_getElem h1] at h3
  simp only [Option.map_some, Option.getD_some, Array.all_eq_true_iff_forall_mem] at h3
  have := h3 e he
  rw [hb] at this
  simpa using this
theorem inv_ready {L : Array Bool} {i : Nat} {o : Oper} (h1 : L.getD i true = false) (h2 : ops[i]? = some o) (h3 : ∀ e ∈ o.after, Region.binds .any e = true → L.getD e.on false = true) : i ∈ Region.ready .any ops L := by
  unfold Region.ready
  have hi : i < ops.size := by
    rcases Nat.lt_or_ge i ops.size with h | h
    · exact h
    · rw [Array.getElem?_eq_none h] at h2; cases h2
  rw [List.mem_filter, List.mem_range, Bool.and_eq_true]
  refine ⟨hi, by simp [h1], ?_⟩
  rw [h2]
  simp only [Option.map_some, Option.getD_some, Array.all_eq_true_iff_forall_mem]
  intro e he
  cases hb : Region.binds .any e
  · rfl
  · simp [h3 e he hb]

/-- What an operation waits for has come up. -/
theorem inv_dep {L : Array Bool} {i : Nat} {o : Oper} (ho : ops[i]? = some o) (hall : ∀ e ∈ o.after, Region.binds .any e = true → L.getD e.on false = true) (j : Nat)
    (hd : ((ops[i]?).map (·.after.any fun e => Region.binds .any e && e.on == j)).getD false = true) : L.getD j false = true := by
  rw [ho] at hd
  simp only [Option.map_some, Option.getD_some, Array.any_eq_true'] at hd
  obtain ⟨e, he, hb⟩ := hd
  rw [Bool.and_eq_true] at hb
  have := hall e he hb.1
  rwa [show e.on = j by simpa using hb.2] at this
/-- Every operation waits for earlier ones only. -/
def Upward (ops : Array Oper) : Bool := (List.range ops.size).all fun i => ((ops[i]?).map (·.after.all fun e => !Region.binds .any e || decide (e.on < i))).getD false
theorem inv_all (hup : Upward ops = true) {L : Array Bool} (hs : L.size = ops.size) (hr : Region.ready .any ops L = []) : L = Array.replicate ops.size true := by
  have key : ∀ i, i < ops.size → L.getD i true = true := by
    intro i
    induction i using Nat.strongRecOn with
    | _ i ih =>
      intro hi
      cases hL : L.getD i true
      · exfalso
        have hm : i ∈ Region.ready .any ops L := by
          refine inv_ready hL (o := ops[i]) (by simp [hi]) fun e he hbd => ?_
          have hu := List.all_eq_true.1 hup i (List.mem_range.2 hi)
          rw [Array.getElem?_eq_getElem hi] at hu
          simp only [Option.map_some, Option.getD_some, Array.all_eq_true_iff_forall_mem] at hu
          have hlt : e.on < i := by have := hu e he; rw [hbd] at this; simpa using this
          have h1 := ih e.on hlt (by omega)
          have h2 : e.on < L.size := by omega
          simpa [Array.getD, h2] using h1
        rw [hr] at hm; cases hm
      · rfl
  apply Array.ext
  · simp [hs]
  · intro i h1 h2
    have := key i (by omega)
    simpa [Array.getD, h1] using this

theorem wpAny_inv (I : Array Bool → Act → World → Prop) (hup : Upward ops = true) (hsz : ∀ L a w, I L a w → L.size = ops.size)
    (step : ∀ L a w, I L a w → ∀ i, i ∈ Region.ready .any ops L → wpOp P ops Q i (fun a' w' => I (L.setIfInBounds i true) a' w') a w)
    (fin : ∀ a w, I (Array.replicate ops.size true) a w → Q .normal a w) :
    ∀ (fuel : Nat) (L : Array Bool) (a : Act) (w : World), I L a w → L.toList.count false ≤ fuel → wpAny P .any ops Q fuel L a w := by
  have done : ∀ L a w, I L a w → Region.ready .any ops L = [] → Q .normal a w := fun L a w h hr => fin a w (by rw [← inv_all hup (hsz L a w h) hr]; exact h)
  intro fuel
  induction fuel with
  | zero =>
    intro L a w h hc
    have hr : Region.ready .any ops L = [] := by
      apply List.eq_nil_iff_forall_not_mem.2
      intro i hi
      obtain ⟨h1, h2, -⟩ := inv_mem hi
      have hl : i < L.size := by rw [hsz L a w h]; exact h1
      have : L[i] = false := by simpa [Array.getD, hl] using h2
      have hm : false ∈ L.toList := by rw [← this]; simp
      have := List.count_pos_iff.2 hm
      omega
    exact ⟨hr, done L a w h hr⟩
  | succ fuel ih =>
    intro L a w h hc
    refine ⟨fun hr => done L a w h hr, fun i hi => ?_⟩
    obtain ⟨h1, h2, -⟩ := inv_mem hi
    have hl : i < L.size := by rw [hsz L a w h]; exact h1
    have hf : L[i] = false := by simpa [Array.getD, hl] using h2
    refine wpOp_mono (fun a' w' h' => ih _ a' w' h' ?_) (step L a w h i hi)
    have e : (L.setIfInBounds i true).toList = L.toList.set i true := by simp
    rw [e, List.count_set (by simpa using hl)]
    have hf' : L.toList[i]'(by simpa using hl) = false := by simpa using hf
    have hm : false ∈ L.toList := by rw [← hf']; exact List.getElem_mem _
    have := List.count_pos_iff.2 hm
    rw [hf']
    show L.toList.count false - 1 + 0 ≤ fuel
    omega

theorem wp_region_inv {id : Nat} {a0 : Act} {w : World} (I : Act → Array Bool → Act → World → Prop) (hm : P.follows .mixedOrders = true) (hup : Upward ops = true)
    (hsz : ∀ L a w, I a0 L a w → L.size = ops.size)
    (start : I a0 (Array.replicate ops.size false) a0 w.drew)
    (step : ∀ L a w, I a0 L a w → ∀ i, i ∈ Region.ready .any ops L → wpOp P ops Q i (fun a' w' => I a0 (L.setIfInBounds i true) a' w') a w)
    (fin : ∀ a w, I a0 (Array.replicate ops.size true) a w → Q .normal a w) : (Code.region id ops true).wp P Q a0 w :=
  wp_region_any hm (wpAny_inv (I a0) hup hsz step fin _ _ _ _ start (by simp))

theorem inv_op {i : Nat} {o : Oper} {K0 : Act → World → Prop} {a : Act} {w : World} (ho : ops[i]? = some o) (hw : Region.wanted o (yielded ops a.tmps) = true)
    (h : ∀ K, Hid (∀ a' w', K0 a' w' → K a' w') → o.wp P a w K Q) : wpOp P ops Q i K0 a w := by
  unfold wpOp
  rw [ho]
  simp only [hw, if_true]
  exact .inl (h K0 (Lib.hid fun _ _ h => h))
end Go.Proofs.Ytdimmnoflenfhaa
/-
  Layer 1: the enclosure of what two enclosures share.
-/
namespace Go.Proofs.Ytdimmnoflenfhaa
open Go.RowKit

theorem Blk.set2 {w : World} {b : Nat} {x y u v : Value} {t : TypeId} (h : Blk w b #[x, y] t) : Blk ((w.setCell ⟨b, 0, none⟩ u).setCell ⟨b, 1, none⟩ v) b #[u, v] t := Blk.set (Blk.set h)

end Go.Proofs.Ytdimmnoflenfhaa
/-
  Layer 1: what two enclosures share, for valid ones.
-/
namespace Go.Proofs.Ytdimmnoflenfhaa
open Go.RowKit

theorem hi1 (l m z : Rat) : hiQ l [m] ≤ z ↔ l ≤ z ∧ m ≤ z := by
  unfold hiQ; simp only [List.foldl_cons, List.foldl_nil]; grind
end Go.Proofs.Ytdimmnoflenfhaa
/-
  More of rational numbers: what Make makes.
-/
namespace Go.Proofs.Ytdimmnoflenfhaa
theorem mkR_self (q : Rat) : mkR (fn q) (fd q) = q := by
  unfold mkR fn fd; exact Rat.num_divInt_den q
theorem mkR_eq (a b c d : Int) (hb : b ≠ 0) (hd : d ≠ 0) : mkR a b = mkR c d ↔ a * d = c * b := Rat.divInt_eq_divInt_iff hb hd
theorem mkR_cross (a b : Int) (hb : b ≠ 0) : fn (mkR a b) * b = a * fd (mkR a b) := by
  have h := (mkR_eq (fn (mkR a b)) (fd (mkR a b)) a b (fd_ne _) hb).1 (mkR_self _)
  exact h
theorem mkR_fits' (n d : Int) (d0 : d ≠ 0) (d1 : -4611686018427387903 ≤ d) (d2 : d ≤ 4611686018427387903) (n1 : -4611686018427387903 ≤ n) (n2 : n ≤ 4611686018427387903) : fits (mkR n d) := by
  obtain ⟨g, hg⟩ : ∃ g, g = gcdI (n.natAbs : Int) (d.natAbs : Int) := ⟨_, rfl⟩
  obtain ⟨p1, p2⟩ := mkR_parts n d g d0 hg
  have g1 : 0 < g := by rw [hg]; exact gcdI_pos_right _ _ (by omega)
  have a0 := Int.ediv_nonneg (show 0 ≤ (n.natAbs : Int) by omega) (show 0 ≤ g by omega)
  have a1 := Int.ediv_le_self g (show 0 ≤ (n.natAbs : Int) by omega)
  have b1 := Int.ediv_le_self g (show 0 ≤ (d.natAbs : Int) by omega)
  unfold fits
  rw [p1, p2]
  have sn : n.sign = -1 ∨ n.sign = 0 ∨ n.sign = 1 := by
    rcases Int.lt_trichotomy n 0 with h | h | h
    · exact .inl (Int.sign_eq_neg_one_of_neg h)
    · subst h; exact .inr (.inl rfl)
    · exact .inr (.inr (Int.sign_eq_one_of_pos h))
  have sd : d.sign = -1 ∨ d.sign = 1 := by
    rcases Int.lt_trichotomy d 0 with h | h | h
    · exact .inl (Int.sign_eq_neg_one_of_neg h)
    · exact absurd h d0
    · exact .inr (Int.sign_eq_one_of_pos h)
  rcases sn with h | h | h <;> rcases sd with k | k <;> rw [h, k] <;> omega
end Go.Proofs.Ytdimmnoflenfhaa
/-
  Layer 5: the first bright place of a list of numbers; the places of a profile.
-/
namespace Go.Proofs.Ytdimmnoflenfhaa
set_option linter.unusedVariables false
set_option linter.unusedSimpArgs false

def fb (t : Int) : List Int → Option Nat
  | [] => none
  | v :: q => if t ≤ v then some 0 else (fb t q).map (· + 1)
theorem fb_some {t : Int} {q : List Int} {j : Nat} : fb t q = some j ↔ ∃ v, q[j]? = some v ∧ t ≤ v ∧ ∀ k, k < j → ∀ u, q[k]? = some u → u < t := by
  induction q generalizing j with
  | nil => simp [fb]
  | cons v q ih =>
    unfold fb
    by_cases h : t ≤ v
    · rw [if_pos h]
      constructor
      · intro e; cases e; exact ⟨v, rfl, h, fun k hk => absurd hk (by omega)⟩
      · rintro ⟨u, hu, hl, hk⟩
        cases j with
        | zero => rfl
        | succ j => have := hk 0 (by omega) v rfl; omega
    · rw [if_neg h]
      cases j with
      | zero =>
        constructor
        · intro e; rw [Option.map_eq_some_iff] at e; obtain ⟨_, _, e⟩ := e; omega
        · rintro ⟨u, hu, hl, -⟩
          simp at hu; omega
      | succ j =>
        rw [Option.map_eq_some_iff]
        constructor
        · rintro ⟨i, hi, e⟩
          obtain rfl : i = j := by omega
          obtain ⟨u, hu, hl, hk⟩ := ih.1 hi
          refine ⟨u, by simpa using hu, hl, fun k hk' x hx => ?_⟩
          cases k with
          | zero => simp at hx; omega
          | succ k => exact hk k (by omega) x (by simpa using hx)
        · rintro ⟨u, hu, hl, hk⟩
          exact ⟨j, ih.2 ⟨u, by simpa using hu, hl, fun k hk' x hx => hk (k + 1) (by omega) x (by simpa using hx)⟩, rfl⟩
theorem fb_none {t : Int} {q : List Int} : fb t q = none ↔ ∀ u ∈ q, u < t := by
  induction q with
  | nil => simp [fb]
  | cons v q ih =>
    unfold fb
    by_cases h : t ≤ v
    · rw [if_pos h]
      constructor
      · intro e; cases e
      · intro k; have := k v (by simp); omega
    · rw [if_neg h, Option.map_eq_none_iff, ih]
      constructor
      · intro k u hu
        rcases List.mem_cons.1 hu with rfl | hu
        · omega
        · exact k u hu
      · intro k u hu; exact k u (List.mem_cons_of_mem _ hu)
theorem fb_lt {t : Int} {q : List Int} {j : Nat} (h : fb t q = some j) : j < q.length := by
  obtain ⟨v, hv, -⟩ := fb_some.1 h
  exact (List.getElem?_eq_some_iff.1 hv).1

/-- The place of the first bright one, from the start of the way on, at an index. -/
def pl (t : Int) (q : List Int) (j : Nat) : Rat :=
  if j = 0 then 0 else (j : Int) - (((q[j]?.getD 0) - t : Int) : Rat) / (((q[j]?.getD 0) - (q[j - 1]?.getD 0) : Int) : Rat)
def br (t : Int) (q : List Int) : Option Rat := (fb t q).map (pl t q)

theorem int_pos {a : Int} (h : 0 < a) : (0 : Rat) < (a : Rat) := by exact_mod_cast Rat.intCast_lt_intCast.2 h
theorem int_nonneg {a : Int} (h : 0 ≤ a) : (0 : Rat) ≤ (a : Rat) := by exact_mod_cast Rat.intCast_le_intCast.2 h
/-- A quotient of whole numbers, by what it is times the divisor. -/
theorem quo_spec (a b : Int) (hb : 0 < b) : ∃ x : Rat, x = (a : Rat) / (b : Rat) ∧ x * (b : Rat) = a := by
  have := int_pos hb
  exact ⟨_, rfl, by grind⟩
theorem quo_bounds {a b : Int} (ha : 0 ≤ a) (hb : 0 < b) (h : a < b) : (0 : Rat) ≤ (a : Rat) / (b : Rat) ∧ (a : Rat) / (b : Rat) < 1 := by
  obtain ⟨x, hx, e⟩ := quo_spec a b hb
  rw [← hx]
  have p := int_pos hb
  have a0 := int_nonneg ha
  have ab : (a : Rat) < (b : Rat) := Rat.intCast_lt_intCast.2 h
  constructor
  · rcases (@Rat.le_total 0 x) with h | h
    · exact h
    · by_cases hx0 : x = 0
      · grind
      · exfalso
        have : x < 0 := by grind
        have := Rat.mul_pos (show 0 < -x by grind) p
        grind
  · rcases (@Rat.le_total x 1) with h | h
    · by_cases e1 : x = 1
      · grind
      · grind
    · exfalso
      have := Rat.mul_nonneg (show 0 ≤ x - 1 by grind) (show 0 ≤ (b : Rat) by grind)
      grind
theorem quo_le {a b c d : Int} (hb : 0 < b) (hd : 0 < d) (h : a * d ≤ c * b) : (a : Rat) / (b : Rat) ≤ (c : Rat) / (d : Rat) := by
  obtain ⟨x, hx, e⟩ := quo_spec a b hb
  obtain ⟨y, hy, f⟩ := quo_spec c d hd
  rw [← hx, ← hy]
  have p := int_pos hb
  have p2 := int_pos hd
  have k : (a : Rat) * d ≤ (c : Rat) * b := by
    rw [← Rat.intCast_mul, ← Rat.intCast_mul]; exact Rat.intCast_le_intCast.2 h
  rcases (@Rat.le_total x y) with h | h
  · exact h
  · by_cases e0 : x = y
    · grind
    · exfalso
      have q := Rat.mul_pos (Rat.mul_pos (show 0 < x - y by grind) p) p2
      have e2 : (x - y) * (b : Rat) * (d : Rat) = (x * b) * d - (y * d) * b := by grind
      rw [e2, e, f] at q
      clear hx hy e f e2
      grind
theorem pl_zero (t : Int) (q : List Int) : pl t q 0 = 0 := if_pos rfl
theorem pl_succ (t : Int) (q : List Int) (j : Nat) {v u : Int} (hv : q[j + 1]? = some v) (hu : q[j]? = some u) : pl t q (j + 1) = ((j : Int) + 1 : Rat) - ((v - t : Int) : Rat) / ((v - u : Int) : Rat) := by
  unfold pl
  rw [if_neg (by omega), Nat.add_sub_cancel, hv, hu]
  simp
theorem fb_step {t : Int} {q : List Int} {j : Nat} (h : fb t q = some (j + 1)) : ∃ v u, q[j + 1]? = some v ∧ q[j]? = some u ∧ u < t ∧ t ≤ v := by
  obtain ⟨v, hv, hl, hk⟩ := fb_some.1 h
  have hlt := fb_lt h
  have hu : q[j]? = some (q[j]'(by omega)) := List.getElem?_eq_getElem (by omega)
  exact ⟨v, _, hv, hu, hk j (by omega) _ hu, hl⟩
theorem pl_bounds {t : Int} {q : List Int} {j : Nat} (h : fb t q = some (j + 1)) : ((j : Int) : Rat) < pl t q (j + 1) ∧ pl t q (j + 1) ≤ ((j : Int) : Rat) + 1 := by
  obtain ⟨v, u, hv, hu, h1, h2⟩ := fb_step h
  rw [pl_succ t q j hv hu]
  have := quo_bounds (a := v - t) (b := v - u) (by omega) (by omega) (by omega)
  grind
theorem pl_nonneg {t : Int} {q : List Int} {j : Nat} (h : fb t q = some j) : 0 ≤ pl t q j ∧ pl t q j ≤ ((j : Int) : Rat) := by
  cases j with
  | zero => rw [pl_zero]; exact ⟨by grind, by simp⟩
  | succ j =>
    have := pl_bounds h
    have := int_nonneg (show 0 ≤ (j : Int) by omega)
    have e : (((j + 1 : Nat) : Int) : Rat) = ((j : Int) : Rat) + 1 := by push_cast; simp
    rw [e]
    grind
/-- Greater values have an earlier first bright place. -/
theorem br_mono {t : Int} {q r : List Int} (hl : r.length = q.length) (hle : ∀ (k : Nat) (u v : Int), q[k]? = some u → r[k]? = some v → u ≤ v) {j : Nat} (h : fb t q = some j) :
    ∃ i, fb t r = some i ∧ i ≤ j ∧ pl t r i ≤ pl t q j := by
  have hlt := fb_lt h
  obtain ⟨v, hv, hge, hk⟩ := fb_some.1 h
  have hr : r[j]? = some (r[j]'(by omega)) := List.getElem?_eq_getElem (by omega)
  cases e : fb t r with
  | none =>
    have := fb_none.1 e _ (List.getElem_mem (show j < r.length by omega))
    have := hle j _ _ hv hr
    omega
  | some i =>
    refine ⟨i, rfl, ?_⟩
    obtain ⟨x, hx, hxe, hxk⟩ := fb_some.1 e
    have hij : i ≤ j := by
      rcases Nat.lt_or_ge j i with h1 | h1
      · have := hxk j h1 _ hr
        have := hle j _ _ hv hr
        omega
      · exact h1
    refine ⟨hij, ?_⟩
    have b1 := pl_nonneg e
    rcases Nat.lt_or_ge i j with h1 | h1
    · obtain ⟨j', rfl⟩ : ∃ j', j = j' + 1 := ⟨j - 1, by omega⟩
      have b2 := pl_bounds h
      have : ((i : Int) : Rat) ≤ ((j' : Int) : Rat) := Rat.intCast_le_intCast.2 (by omega)
      grind
    · obtain rfl : i = j := by omega
      cases i with
      | zero => rw [pl_zero, pl_zero]; grind
      | succ i =>
        obtain ⟨v1, u1, hv1, hu1, a1, a2⟩ := fb_step h
        obtain ⟨v2, u2, hv2, hu2, c1, c2⟩ := fb_step e
        rw [pl_succ t q i hv1 hu1, pl_succ t r i hv2 hu2]
        have l1 := hle _ _ _ hv1 hv2
        have l2 := hle _ _ _ hu1 hu2
        have := quo_le (a := v1 - t) (b := v1 - u1) (c := v2 - t) (d := v2 - u2) (by omega) (by omega) (by
          have e1 : (v1 - t) * (v2 - u2) = (v1 - t) * (v2 - t) + (v1 - t) * (t - u2) := by rw [← Int.mul_add]; congr 1; omega
          have e2 : (v2 - t) * (v1 - u1) = (v1 - t) * (v2 - t) + (v2 - t) * (t - u1) := by rw [Int.mul_comm (v1 - t), ← Int.mul_add]; congr 1; omega
          rw [e1, e2]
          have := Int.mul_le_mul (show v1 - t ≤ v2 - t by omega) (show t - u2 ≤ t - u1 by omega) (by omega) (by omega)
          omega)
        grind
/-- The place of the first bright one from an index on; of the last one up to an index. -/
def FX (t : Int) (zs : List Int) (p : Nat) : Option Rat := (br t (zs.drop p)).map fun d => ((p : Int) : Rat) + d
def LX (t : Int) (zs : List Int) (p : Nat) : Option Rat := (br t (zs.take (p + 1)).reverse).map fun d => ((p : Int) : Rat) - d

theorem drop_get (zs : List Int) (p k : Nat) : (zs.drop p)[k]? = zs[p + k]? := by rw [List.getElem?_drop]
theorem back_get (zs : List Int) (p k : Nat) (hp : p < zs.length) : (zs.take (p + 1)).reverse[k]? = if k ≤ p then zs[p - k]? else none := by
  have hl : (zs.take (p + 1)).length = p + 1 := by rw [List.length_take]; omega
  by_cases h : k ≤ p
  · rw [if_pos h, List.getElem?_reverse (by omega), hl, List.getElem?_take, if_pos (by omega)]
    congr 1
  · rw [if_neg h, List.getElem?_eq_none (by rw [List.length_reverse]; omega)]
theorem back_len (zs : List Int) (p : Nat) (hp : p < zs.length) : (zs.take (p + 1)).reverse.length = p + 1 := by
  rw [List.length_reverse, List.length_take]; omega

/-- One list is nowhere greater than another one. -/
def LeL (q r : List Int) : Prop := r.length = q.length ∧ ∀ (k : Nat) (u v : Int), q[k]? = some u → r[k]? = some v → u ≤ v
theorem LeL.drop {q r : List Int} (h : LeL q r) (p : Nat) : LeL (q.drop p) (r.drop p) :=
  ⟨by rw [List.length_drop, List.length_drop, h.1], fun k u v hu hv => h.2 (p + k) u v (by rw [← drop_get]; exact hu) (by rw [← drop_get]; exact hv)⟩
theorem LeL.back {q r : List Int} (h : LeL q r) (p : Nat) (hp : p < q.length) : LeL (q.take (p + 1)).reverse (r.take (p + 1)).reverse := by
  refine ⟨by rw [back_len _ _ hp, back_len _ _ (by rw [h.1]; exact hp)], fun k u v hu hv => ?_⟩
  rw [back_get _ _ _ hp] at hu
  rw [back_get _ _ _ (by rw [h.1]; exact hp)] at hv
  split at hu
  · rw [if_pos (by assumption)] at hv; exact h.2 _ u v hu hv
  · cases hu
theorem br_le {t : Int} {q r : List Int} (h : LeL q r) {d : Rat} (hd : br t q = some d) : ∃ e, br t r = some e ∧ e ≤ d := by
  unfold br at hd
  obtain ⟨j, hj, rfl⟩ := Option.map_eq_some_iff.1 hd
  obtain ⟨i, hi, -, hle⟩ := br_mono h.1 h.2 hj
  exact ⟨_, by unfold br; rw [hi]; rfl, hle⟩
theorem FX_le {t : Int} {q r : List Int} (h : LeL q r) {p : Nat} {x : Rat} (hx : FX t q p = some x) : ∃ y, FX t r p = some y ∧ y ≤ x := by
  unfold FX at hx ⊢
  obtain ⟨d, hd, rfl⟩ := Option.map_eq_some_iff.1 hx
  obtain ⟨e, he, hle⟩ := br_le (h.drop p) hd
  exact ⟨_, by rw [he]; rfl, by grind⟩
theorem LX_le {t : Int} {q r : List Int} (h : LeL q r) {p : Nat} (hp : p < q.length) {x : Rat} (hx : LX t q p = some x) : ∃ y, LX t r p = some y ∧ x ≤ y := by
  unfold LX at hx ⊢
  obtain ⟨d, hd, rfl⟩ := Option.map_eq_some_iff.1 hx
  obtain ⟨e, he, hle⟩ := br_le (h.back p hp) hd
  exact ⟨_, by rw [he]; rfl, by grind⟩
theorem br_none {t : Int} {q : List Int} : br t q = none ↔ ∀ u ∈ q, u < t := by
  unfold br; rw [Option.map_eq_none_iff, fb_none]
theorem FX_none {t : Int} {zs : List Int} {p : Nat} : FX t zs p = none ↔ ∀ k u, p ≤ k → zs[k]? = some u → u < t := by
  unfold FX; rw [Option.map_eq_none_iff, br_none]
  constructor
  · intro h k u hk hu
    refine h u (List.mem_of_getElem? (i := k - p) ?_)
    rw [drop_get, ← hu]; congr 1; omega
  · intro h u hu
    obtain ⟨k, hk⟩ := List.getElem?_of_mem hu
    rw [drop_get] at hk
    exact h (p + k) u (by omega) hk
theorem LX_none {t : Int} {zs : List Int} {p : Nat} (hp : p < zs.length) : LX t zs p = none ↔ ∀ k u, k ≤ p → zs[k]? = some u → u < t := by
  unfold LX; rw [Option.map_eq_none_iff, br_none]
  constructor
  · intro h k u hk hu
    refine h u (List.mem_of_getElem? (i := p - k) ?_)
    rw [back_get _ _ _ hp, if_pos (by omega), ← hu]; congr 1; omega
  · intro h u hu
    obtain ⟨k, hk⟩ := List.getElem?_of_mem hu
    rw [back_get _ _ _ hp] at hk
    split at hk
    · exact h (p - k) u (by omega) hk
    · cases hk
/-- Where there is a first bright place, there is a last one. -/
theorem LX_of_FX {t : Int} {zs : List Int} (hl : 0 < zs.length) {x : Rat} (h : FX t zs 0 = some x) : ∃ y, LX t zs (zs.length - 1) = some y := by
  cases e : LX t zs (zs.length - 1) with
  | some y => exact ⟨y, rfl⟩
  | none =>
    rw [LX_none (by omega)] at e
    have : FX t zs 0 = none := FX_none.2 fun k u _ hu => e k u (by have := (List.getElem?_eq_some_iff.1 hu).1; omega) hu
    rw [this] at h; cases h

/-- All values are those of a profile. -/
def V8 (zs : List Int) : Prop := ∀ v ∈ zs, 0 ≤ v ∧ v ≤ 255
/-- A valid profile. -/
def okP (zs : List Int) : Prop := (2 ≤ zs.length ∧ zs.length ≤ 64) ∧ V8 zs
instance (zs : List Int) : Decidable (V8 zs) := inferInstanceAs (Decidable (∀ v ∈ zs, _))
instance (zs : List Int) : Decidable (okP zs) := inferInstanceAs (Decidable (_ ∧ _))
theorem mkR_div (a b : Int) : mkR a b = (a : Rat) / (b : Rat) := Rat.divInt_eq_div a b
/-- The place as a fraction with small parts. -/
theorem pl_repr {t : Int} {q : List Int} {j : Nat} (hq : V8 q) (ht : 1 ≤ t) (h : fb t q = some j) : ∃ N D : Int, 1 ≤ D ∧ D ≤ 255 ∧ 0 ≤ N ∧ N ≤ j * D ∧ pl t q j = mkR N D := by
  cases j with
  | zero => exact ⟨0, 1, by omega, by omega, by omega, by omega, by rw [pl_zero, mkR_div]; grind⟩
  | succ j =>
    obtain ⟨v, u, hv, hu, h1, h2⟩ := fb_step h
    have b1 := hq v (List.mem_of_getElem? hv)
    have b2 := hq u (List.mem_of_getElem? hu)
    rw [pl_succ t q j hv hu]
    have e : ((j + 1 : Nat) : Int) * (v - u) = (j : Int) * (v - u) + (v - u) := by push_cast; rw [Int.add_mul, Int.one_mul]
    have e0 := Int.mul_nonneg (show 0 ≤ (j : Int) by omega) (show 0 ≤ v - u by omega)
    refine ⟨((j + 1 : Nat) : Int) * (v - u) - (v - t), v - u, by omega, by omega, by omega, by omega, ?_⟩
    have e2 : ((((j + 1 : Nat) : Int) * (v - u) - (v - t) : Int) : Rat) = (((j : Int) : Rat) + 1) * ((v - u : Int) : Rat) - ((v - t : Int) : Rat) := by
      rw [Rat.intCast_sub (((j + 1 : Nat) : Int) * (v - u)) (v - t), Rat.intCast_mul (((j + 1 : Nat) : Int)) (v - u), Int.natCast_add, Rat.intCast_add]; rfl
    rw [mkR_div, e2]
    have := int_pos (show 0 < v - u by omega)
    obtain ⟨r, hr⟩ : ∃ r : Rat, ((v - u : Int) : Rat) = r := ⟨_, rfl⟩
    obtain ⟨s, hs⟩ : ∃ s : Rat, ((v - t : Int) : Rat) = s := ⟨_, rfl⟩
    rw [hr] at this ⊢
    rw [hs]
    grind
theorem mkR_bound (a b A B : Int) (hb : 1 ≤ b) (hB : b ≤ B) (h1 : -A ≤ a) (h2 : a ≤ A) : -A ≤ fn (mkR a b) ∧ fn (mkR a b) ≤ A ∧ fd (mkR a b) ≤ B := by
  obtain ⟨g, hg⟩ : ∃ g, g = gcdI (a.natAbs : Int) (b.natAbs : Int) := ⟨_, rfl⟩
  obtain ⟨p1, p2⟩ := mkR_parts a b g (by omega) hg
  have g1 : 0 < g := by rw [hg]; exact gcdI_pos_right _ _ (by omega)
  have a0 := Int.ediv_nonneg (show 0 ≤ (a.natAbs : Int) by omega) (show 0 ≤ g by omega)
  have a1 := Int.ediv_le_self g (show 0 ≤ (a.natAbs : Int) by omega)
  have b1 := Int.ediv_le_self g (show 0 ≤ (b.natAbs : Int) by omega)
  rw [p1, p2, Int.sign_eq_one_of_pos (show 0 < b by omega)]
  rcases Int.lt_trichotomy a 0 with h | h | h
  · rw [Int.sign_eq_neg_one_of_neg h]; omega
  · subst h; simp at a1 b1 ⊢; omega
  · rw [Int.sign_eq_one_of_pos h]; omega
theorem V8.drop {zs : List Int} (h : V8 zs) (p : Nat) : V8 (zs.drop p) := fun v hv => h v (List.mem_of_mem_drop hv)
theorem V8.back {zs : List Int} (h : V8 zs) (p : Nat) : V8 (zs.take p).reverse := fun v hv => h v (List.mem_of_mem_take (List.mem_reverse.1 hv))
/-- Places have small parts. -/
theorem FX_repr {t : Int} {zs : List Int} {p : Nat} {x : Rat} (hz : okP zs) (ht : 1 ≤ t) (hp : p < zs.length) (h : FX t zs p = some x) : ∃ N D : Int, 1 ≤ D ∧ D ≤ 255 ∧ (p : Int) * D ≤ N ∧ N ≤ ((zs.length : Int) - 1) * D ∧ x = mkR N D := by
  unfold FX br at h
  obtain ⟨d, hd, rfl⟩ := Option.map_eq_some_iff.1 h
  obtain ⟨j, hj, rfl⟩ := Option.map_eq_some_iff.1 hd
  obtain ⟨N, D, d1, d2, n0, n1, e⟩ := pl_repr (hz.2.drop p) ht hj
  have hlt := fb_lt hj
  rw [List.length_drop] at hlt
  refine ⟨p * D + N, D, d1, d2, by omega, ?_, ?_⟩
  · have := Int.mul_le_mul_of_nonneg_right (show (p : Int) + j ≤ (zs.length : Int) - 1 by omega) (show 0 ≤ D by omega)
    rw [Int.add_mul] at this
    omega
  · rw [e, mkR_div, mkR_div, Rat.intCast_add, Rat.intCast_mul]
    have := int_pos (show 0 < D by omega)
    grind
theorem LX_repr {t : Int} {zs : List Int} {p : Nat} {x : Rat} (hz : okP zs) (ht : 1 ≤ t) (hp : p < zs.length) (h : LX t zs p = some x) : ∃ N D : Int, 1 ≤ D ∧ D ≤ 255 ∧ 0 ≤ N ∧ N ≤ p * D ∧ x = mkR N D := by
  unfold LX br at h
  obtain ⟨d, hd, rfl⟩ := Option.map_eq_some_iff.1 h
  obtain ⟨j, hj, rfl⟩ := Option.map_eq_some_iff.1 hd
  obtain ⟨N, D, d1, d2, n0, n1, e⟩ := pl_repr (hz.2.back (p + 1)) ht hj
  have hlt := fb_lt hj
  rw [back_len _ _ hp] at hlt
  refine ⟨p * D - N, D, d1, d2, ?_, by omega, ?_⟩
  · have := Int.mul_le_mul_of_nonneg_right (show (j : Int) ≤ (p : Int) by omega) (show 0 ≤ D by omega)
    omega
  · rw [e, mkR_div, mkR_div, Rat.intCast_sub, Rat.intCast_mul]
    have := int_pos (show 0 < D by omega)
    grind
/-- The upper and the lower profile. -/
def upL (n : Int) (zs : List Int) : List Int := zs.map fun v => if 255 ≤ v + n then 255 else v + n
def lwL (n : Int) (zs : List Int) : List Int := zs.map fun v => if v - n ≤ 0 then 0 else v - n
theorem upL_length (n : Int) (zs : List Int) : (upL n zs).length = zs.length := by simp [upL]
theorem lwL_length (n : Int) (zs : List Int) : (lwL n zs).length = zs.length := by simp [lwL]
theorem upL_get (n : Int) (zs : List Int) (k : Nat) : (upL n zs)[k]? = zs[k]?.map fun v => if 255 ≤ v + n then 255 else v + n := by simp [upL]
theorem lwL_get (n : Int) (zs : List Int) (k : Nat) : (lwL n zs)[k]? = zs[k]?.map fun v => if v - n ≤ 0 then 0 else v - n := by simp [lwL]
theorem upL_V8 {n : Int} {zs : List Int} (h : V8 zs) (hn : 0 ≤ n) : V8 (upL n zs) := by
  intro v hv
  obtain ⟨u, hu, rfl⟩ := List.mem_map.1 hv
  have := h u hu
  split <;> omega
theorem lwL_V8 {n : Int} {zs : List Int} (h : V8 zs) (hn : 0 ≤ n) : V8 (lwL n zs) := by
  intro v hv
  obtain ⟨u, hu, rfl⟩ := List.mem_map.1 hv
  have := h u hu
  split <;> omega
theorem upL_ok {n : Int} {zs : List Int} (h : okP zs) (hn : 0 ≤ n) : okP (upL n zs) := ⟨by rw [upL_length]; exact h.1, upL_V8 h.2 hn⟩
theorem lwL_ok {n : Int} {zs : List Int} (h : okP zs) (hn : 0 ≤ n) : okP (lwL n zs) := ⟨by rw [lwL_length]; exact h.1, lwL_V8 h.2 hn⟩
theorem LeL.trans {p q r : List Int} (h : LeL p q) (k : LeL q r) : LeL p r :=
  ⟨k.1.trans h.1, fun i u v hu hv => by
    have hl := (List.getElem?_eq_some_iff.1 hu).1
    have hq : q[i]? = some (q[i]'(by rw [h.1]; exact hl)) := List.getElem?_eq_getElem _
    have := h.2 i _ _ hu hq
    have := k.2 i _ _ hq hv
    omega⟩
theorem lw_up {n : Int} {zs : List Int} (h : V8 zs) (hn : 0 ≤ n) : LeL (lwL n zs) (upL n zs) := by
  refine ⟨by rw [upL_length, lwL_length], fun k u v hu hv => ?_⟩
  rw [lwL_get] at hu; rw [upL_get] at hv
  obtain ⟨x, hx, rfl⟩ := Option.map_eq_some_iff.1 hu
  rw [hx, Option.map_some] at hv
  cases hv
  have := h x (List.mem_of_getElem? hx)
  split <;> split <;> omega
/-- The distance from the first to the last bright place. -/
def WX (t : Int) (zs : List Int) : Option Rat := (FX t zs 0).bind fun x => (LX t zs (zs.length - 1)).map fun y => y - x
theorem WX_some {t : Int} {zs : List Int} {w : Rat} : WX t zs = some w ↔ ∃ x y, FX t zs 0 = some x ∧ LX t zs (zs.length - 1) = some y ∧ w = y - x := by
  unfold WX
  rw [Option.bind_eq_some_iff]
  constructor
  · rintro ⟨x, hx, h⟩
    obtain ⟨y, hy, e⟩ := Option.map_eq_some_iff.1 h
    exact ⟨x, y, hx, hy, e.symm⟩
  · rintro ⟨x, y, hx, hy, e⟩
    exact ⟨x, hx, by rw [hy, e]; rfl⟩
theorem WX_none {t : Int} {zs : List Int} (hl : 0 < zs.length) : WX t zs = none ↔ FX t zs 0 = none := by
  unfold WX
  cases e : FX t zs 0 with
  | none => simp
  | some x => obtain ⟨y, hy⟩ := LX_of_FX hl e; simp [hy]
theorem WX_le {t : Int} {q r : List Int} (h : LeL q r) (hl : 0 < q.length) {w : Rat} (hw : WX t q = some w) : ∃ v, WX t r = some v ∧ w ≤ v := by
  obtain ⟨x, y, hx, hy, rfl⟩ := WX_some.1 hw
  obtain ⟨x', hx', h1⟩ := FX_le h hx
  obtain ⟨y', hy', h2⟩ := LX_le h (by omega) hy
  rw [← h.1] at hy'
  exact ⟨y' - x', WX_some.2 ⟨x', y', hx', hy', rfl⟩, by grind⟩
theorem mkR_sgn (a b : Int) (h : 0 ≤ a) (hb : 1 ≤ b) : 0 ≤ fn (mkR a b) := by
  have e := mkR_cross a b (by omega)
  have := Int.mul_nonneg h (show 0 ≤ fd (mkR a b) by have := fd_pos (mkR a b); omega)
  rw [← e] at this
  rcases (show fn (mkR a b) < 0 ∨ 0 ≤ fn (mkR a b) by omega) with k | k
  · have := Int.mul_neg_of_neg_of_pos k (show 0 < b by omega); omega
  · exact k
theorem FX_fits {t : Int} {zs : List Int} {p : Nat} {x : Rat} (hz : okP zs) (ht : 1 ≤ t) (hp : p < zs.length) (h : FX t zs p = some x) : (0 ≤ fn x ∧ fn x ≤ 16320 ∧ fd x ≤ 255) ∧ fits x := by
  obtain ⟨N, D, d1, d2, n0, n1, rfl⟩ := FX_repr hz ht hp h
  have a1 := Int.mul_nonneg (show 0 ≤ (p : Int) by omega) (show 0 ≤ D by omega)
  have a2 := Int.mul_le_mul (show (zs.length : Int) - 1 ≤ 63 by have := hz.1.2; omega) d2 (by omega) (by omega)
  have b := mkR_bound N D 16320 255 d1 d2 (by omega) (by omega)
  have c := mkR_sgn N D (by omega) d1
  exact ⟨⟨c, b.2.1, b.2.2⟩, by unfold fits; omega⟩
theorem LX_fits {t : Int} {zs : List Int} {p : Nat} {x : Rat} (hz : okP zs) (ht : 1 ≤ t) (hp : p < zs.length) (h : LX t zs p = some x) : (0 ≤ fn x ∧ fn x ≤ 16320 ∧ fd x ≤ 255) ∧ fits x := by
  obtain ⟨N, D, d1, d2, n0, n1, rfl⟩ := LX_repr hz ht hp h
  have a2 := Int.mul_le_mul (show (p : Int) ≤ 63 by have := hz.1.2; omega) d2 (by omega) (by omega)
  have b := mkR_bound N D 16320 255 d1 d2 (by omega) (by omega)
  have c := mkR_sgn N D (by omega) d1
  exact ⟨⟨c, b.2.1, b.2.2⟩, by unfold fits; omega⟩
theorem WX_fits {t : Int} {zs : List Int} {w : Rat} (hz : okP zs) (ht : 1 ≤ t) (h : WX t zs = some w) : (-4161600 ≤ fn w ∧ fn w ≤ 4161600 ∧ fd w ≤ 65025) ∧ fits w := by
  obtain ⟨x, y, hx, hy, rfl⟩ := WX_some.1 h
  have hl := hz.1
  obtain ⟨⟨x0, x1, x2⟩, -⟩ := FX_fits hz ht (by omega) hx
  obtain ⟨⟨y0, y1, y2⟩, -⟩ := LX_fits hz ht (by omega) hy
  have dx := fd_pos x; have dy := fd_pos y
  have e : y - x = mkR (fn y * fd x - fn x * fd y) (fd y * fd x) := by
    rw [mkR_div, Rat.intCast_sub, Rat.intCast_mul, Rat.intCast_mul, Rat.intCast_mul]
    have hx := mkR_self x; have hy := mkR_self y
    rw [mkR_div] at hx hy
    have := int_pos (show 0 < fd x by omega); have := int_pos (show 0 < fd y by omega)
    grind
  have m1 := Int.mul_le_mul y1 x2 (by omega) (by omega)
  have m2 := Int.mul_le_mul x1 y2 (by omega) (by omega)
  have m3 := Int.mul_nonneg y0 (show 0 ≤ fd x by omega)
  have m4 := Int.mul_nonneg x0 (show 0 ≤ fd y by omega)
  have m5 := Int.mul_le_mul y2 x2 (by omega) (by omega)
  have m6 := Int.mul_pos (show 0 < fd y by omega) (show 0 < fd x by omega)
  have b := mkR_bound (fn y * fd x - fn x * fd y) (fd y * fd x) 4161600 65025 (by omega) (by omega) (by omega) (by omega)
  rw [← e] at b
  exact ⟨b, by unfold fits; omega⟩
end Go.Proofs.Ytdimmnoflenfhaa
/-
  Layer 5: ranges, thresholds, noises, valid profiles, by the code.
-/
namespace Go.Proofs.Ytdimmnoflenfhaa
open Go.RowKit
set_option linter.unusedVariables false
set_option linter.unusedSimpArgs false

set_option maxHeartbeats 400000 in
theorem gwithin_yes (n lo hi : Int) (h1 : lo ≤ n) (h2 : n ≤ hi) (w : World) :
    Calls Try.prog 59 #[.int .i64 n, .int .i64 lo, .int .i64 hi] w fun e w' => e = .returned (.bool true) ∧ w = w' := by
  go_enter Try.func59, Try.ntmps59
  go_wp2
  go_ret
  exact ⟨rfl, rfl⟩
set_option maxHeartbeats 400000 in
theorem gwithin_no (n lo hi : Int) (h : ¬ (lo ≤ n ∧ n ≤ hi)) (w : World) :
    Calls Try.prog 59 #[.int .i64 n, .int .i64 lo, .int .i64 hi] w fun e w' => e = .returned (.bool false) ∧ w = w' := by
  by_cases h1 : lo ≤ n
  · have hd : decide (n ≤ hi) = false := by simp; omega
    clear h
    go_enter Try.func59, Try.ntmps59
    go_wp2
    go_ret
    exact ⟨by first | rfl | simp, rfl⟩
  · clear h
    go_enter Try.func59, Try.ntmps59
    go_wp2
    go_ret
    exact ⟨by first | rfl | simp, rfl⟩
theorem gwithin_any (n lo hi : Int) (w : World) :
    Calls Try.prog 59 #[.int .i64 n, .int .i64 lo, .int .i64 hi] w fun e w' => e = .returned (.bool (decide (lo ≤ n ∧ n ≤ hi))) ∧ w = w' := by
  by_cases h : lo ≤ n ∧ n ≤ hi
  · rw [decide_eq_true h]; exact gwithin_yes n lo hi h.1 h.2 w
  · rw [decide_eq_false h]; exact gwithin_no n lo hi h w
/-- A threshold; a noise. -/
def okT (t : Int) : Prop := 1 ≤ t ∧ t ≤ 255
def okN (n : Int) : Prop := 0 ≤ n ∧ n ≤ 64
instance (t : Int) : Decidable (okT t) := inferInstanceAs (Decidable (_ ∧ _))
instance (t : Int) : Decidable (okN t) := inferInstanceAs (Decidable (_ ∧ _))
set_option maxHeartbeats 400000 in
theorem isThr_any (t : Int) (w : World) :
    Calls Try.prog 69 #[.int .i64 t] w fun e w' => e = .returned (.bool (decide (okT t))) ∧ w = w' := by
  have HC := Lib.hid (gwithin_any t 1 255)
  have e : decide (okT t) = decide (1 ≤ t ∧ t ≤ 255) := rfl
  rw [e]
  obtain ⟨b, hb⟩ : ∃ b, decide (1 ≤ t ∧ t ≤ 255) = b := ⟨_, rfl⟩
  rw [hb] at HC ⊢
  clear hb e
  go_enter Try.func69, Try.ntmps69
  go_wp2_with (go_at_call 59; ((with_reducible refine (HC.out _).mono ?_); rintro e w1 ⟨rfl, rfl⟩))
  go_ret
  exact ⟨rfl, rfl⟩
set_option maxHeartbeats 400000 in
theorem isNoise_any (t : Int) (w : World) :
    Calls Try.prog 70 #[.int .i64 t] w fun e w' => e = .returned (.bool (decide (okN t))) ∧ w = w' := by
  have HC := Lib.hid (gwithin_any t 0 64)
  have e : decide (okN t) = decide (0 ≤ t ∧ t ≤ 64) := rfl
  rw [e]
  obtain ⟨b, hb⟩ : ∃ b, decide (0 ≤ t ∧ t ≤ 64) = b := ⟨_, rfl⟩
  rw [hb] at HC ⊢
  clear hb e
  go_enter Try.func70, Try.ntmps70
  go_wp2_with (go_at_call 59; ((with_reducible refine (HC.out _).mono ?_); rintro e w1 ⟨rfl, rfl⟩))
  go_ret
  exact ⟨rfl, rfl⟩

theorem V8.snoc {zs : List Int} {k : Nat} {z : Int} (h : V8 (zs.take k)) (hz : zs[k]? = some z) (ok : 0 ≤ z ∧ z ≤ 255) : V8 (zs.take (k + 1)) := by
  rw [List.take_add_one, hz]
  intro x hx
  rcases List.mem_append.1 hx with k | k
  · exact h x k
  · simp at k; subst k; exact ok
theorem V8.all {zs : List Int} {k : Nat} (h : V8 (zs.take k)) (hk : zs.length ≤ k) : V8 zs := by
  rwa [List.take_of_length_le hk] at h
theorem V8.not {zs : List Int} {k : Nat} {z : Int} (hz : zs[k]? = some z) (no : ¬ (0 ≤ z ∧ z ≤ 255)) : ¬ V8 zs := fun h => no (h z (List.mem_of_getElem? hz))
/-- 0, or the error of a profile that is not valid. -/
def ckP (zs : List Int) : Int := if okP zs then 0 else 50
theorem ckP_ok {zs : List Int} (h : okP zs) : ckP zs = 0 := if_pos h
theorem ckP_no {zs : List Int} (h : ¬ okP zs) : ckP zs = 50 := if_neg h
set_option maxHeartbeats 2000000 in
theorem ckP_loop (a : Option Addr) (n c : Nat) (zs : List Int) (hn2 : 2 ≤ n) (hn64 : n ≤ 64) (w : World) (hR : Row w a n (iv zs)) :
    Calls Try.prog 26 #[.slice a n c] w fun e w' => e = .returned (.int .i64 (ckP zs)) ∧ Below w.heap.size w w' := by
  have hx : zs.length = n := by have := hR.1; rwa [iv_length] at this
  have HX := Lib.hid hx; have HR := Lib.hid hR
  clear hx hR
  have p2 : (2 : Int) ≤ (n : Int) := by omega
  have p3 : (n : Int) ≤ 64 := by omega
  have HL := Lib.hid (gwithin_yes (n : Int) 2 64 p2 p3)
  go_enter Try.func26, Try.ntmps26
  go_wp2_with (go_at_call 59; ((with_reducible refine (HL.out _).mono ?_); rintro e w1 ⟨rfl, rfl⟩))
  go_loopw [4, 11] (fun v i wr => ∃ k : Nat, k ≤ n ∧ i = .int .i64 k ∧ Hid (V8 (zs.take k)) ∧ Below w.heap.size w wr) (fun _ i _ => n - (intOf i).toNat)
  case atStart => exact ⟨0, Nat.zero_le _, rfl, (show V8 (zs.take 0) from fun z hz => by simp at hz), by (repeat' (first | (with_reducible exact Below.refl _ _) | (with_reducible assumption) | (with_reducible refine belowThru ?_ (by assumption)) | (with_reducible refine belowAlloc ?_) | (with_reducible refine Below.setCell ?_ (by first | omega | (simp; done) | (simp; omega)) _) | (with_reducible refine Below.drew ?_) | (with_reducible refine below_drewN ?_ _)))⟩
  case round =>
    obtain ⟨k, hk, rfl, ht, hB⟩ := hrel
    by_cases hlt : k < n
    · obtain ⟨b1, o1, z1, rfl, l1, h1, c1⟩ := HR.out.int hlt
      have c1 := cell_later hB c1
      have p0 : (0 : Int) ≤ (k : Int) := by omega
      have p1 : (k : Int) < (n : Int) := by omega
      by_cases he : 0 ≤ z1 ∧ z1 ≤ 255
      · have ht' : Hid (V8 (zs.take (k + 1))) := V8.snoc ht.out h1 he
        have HC := Lib.hid (gwithin_yes z1 0 255 he.1 he.2)
        clear h1 he
        go_wp2_with (go_at_call 59; ((with_reducible refine (HC.out _).mono ?_); rintro e w1 ⟨rfl, rfl⟩))
        go_roundw
        case rel => exact ⟨k + 1, hlt, by go_num, ht', by (repeat' (first | (with_reducible exact Below.refl _ _) | (with_reducible assumption) | (with_reducible refine belowThru ?_ (by assumption)) | (with_reducible refine belowAlloc ?_) | (with_reducible refine Below.setCell ?_ (by first | omega | (simp; done) | (simp; omega)) _) | (with_reducible refine Below.drew ?_) | (with_reducible refine below_drewN ?_ _)))⟩
        case measure => simp [intOf]; omega
      · have hz : ckP zs = 50 := ckP_no (fun h => V8.not h1 he h.2)
        have HC := Lib.hid (gwithin_no z1 0 255 he)
        clear h1 he
        go_wp2_with (go_at_call 59; ((with_reducible refine (HC.out _).mono ?_); rintro e w1 ⟨rfl, rfl⟩))
        go_ret
        exact ⟨by rw [hz]; rfl, by (repeat' (first | (with_reducible exact Below.refl _ _) | (with_reducible assumption) | (with_reducible refine belowThru ?_ (by assumption)) | (with_reducible refine belowAlloc ?_) | (with_reducible refine Below.setCell ?_ (by first | omega | (simp; done) | (simp; omega)) _) | (with_reducible refine Below.drew ?_) | (with_reducible refine below_drewN ?_ _)))⟩
    · have hz : ckP zs = 0 := ckP_ok ⟨⟨by rw [HX.out]; exact hn2, by rw [HX.out]; exact hn64⟩, V8.all (k := k) ht.out (by rw [HX.out]; omega)⟩
      go_wp2
      go_ret
      exact ⟨by rw [hz]; rfl, by (repeat' (first | (with_reducible exact Below.refl _ _) | (with_reducible assumption) | (with_reducible refine belowThru ?_ (by assumption)) | (with_reducible refine belowAlloc ?_) | (with_reducible refine Below.setCell ?_ (by first | omega | (simp; done) | (simp; omega)) _) | (with_reducible refine Below.drew ?_) | (with_reducible refine below_drewN ?_ _)))⟩
set_option maxHeartbeats 400000 in
theorem ckP_len (a : Option Addr) (n c : Nat) (hn : n ≤ maxLen) (h : ¬ (2 ≤ n ∧ n ≤ 64)) (w : World) :
    Calls Try.prog 26 #[.slice a n c] w fun e w' => e = .returned (.int .i64 50) ∧ Below w.heap.size w w' := by
  have HL := Lib.hid (gwithin_no (n : Int) 2 64 (fun k => h (by omega)))
  unfold maxLen at hn
  clear h
  go_enter Try.func26, Try.ntmps26
  go_wp2_with (go_at_call 59; ((with_reducible refine (HL.out _).mono ?_); rintro e w1 ⟨rfl, rfl⟩))
  go_ret
  exact ⟨rfl, by (repeat' (first | (with_reducible exact Below.refl _ _) | (with_reducible assumption) | (with_reducible refine belowThru ?_ (by assumption)) | (with_reducible refine belowAlloc ?_) | (with_reducible refine Below.setCell ?_ (by first | omega | (simp; done) | (simp; omega)) _) | (with_reducible refine Below.drew ?_) | (with_reducible refine below_drewN ?_ _)))⟩
theorem ckP_any (a : Option Addr) (n c : Nat) (zs : List Int) (hn : n ≤ maxLen) (w : World) (hR : Row w a n (iv zs)) :
    Calls Try.prog 26 #[.slice a n c] w fun e w' => e = .returned (.int .i64 (ckP zs)) ∧ Below w.heap.size w w' := by
  by_cases hl : 2 ≤ n ∧ n ≤ 64
  · exact ckP_loop a n c zs hl.1 hl.2 w hR
  · have hx : zs.length = n := by have := hR.1; rwa [iv_length] at this
    rw [ckP_no (fun h => hl (by rw [← hx]; exact h.1))]
    exact ckP_len a n c hn hl w
end Go.Proofs.Ytdimmnoflenfhaa
/-
  Layer 5: the iterator over a profile, from an index to one of its ends.
-/
namespace Go.Proofs.Ytdimmnoflenfhaa
open Go.RowKit Go.Shelf
set_option linter.unusedVariables false
set_option linter.unusedSimpArgs false

attribute [local go_sem] Oper.semAt_some

/-- An element of a way: how far it is from the start, and its value. -/
abbrev Wel (q : List Int) := { x : Nat × Int // q[x.1]? = some x.2 }
def weEnc {q : List Int} (p s : Int) (x : Wel q) : Array Value := #[.int .i64 (p + s * (x.1.1 : Int)), .int .i64 x.1.2]
/-- So many have come, in order. -/
def WAll {q : List Int} (k : Nat) (xs : List (Wel q)) : Prop := xs.map (fun x => x.1.1) = List.range k
theorem WAll.snoc {q : List Int} {k : Nat} {xs : List (Wel q)} (h : WAll k xs) (x : Wel q) (hx : x.1.1 = k) : WAll (k + 1) (xs ++ [x]) := by
  unfold WAll at *
  rw [List.map_append, h, List.range_succ, List.map_singleton, hx]
theorem WAll.length {q : List Int} {k : Nat} {xs : List (Wel q)} (h : WAll k xs) : xs.length = k := by
  have := congrArg List.length h
  simpa using this
/-- The boxes that the iterator reads. -/
def AlG (Ba Bp Bs : Nat) (p s : Int) (a : Option Addr) (n c : Nat) (W : World) : Prop :=
  W.cell? ⟨Ba, 0, none⟩ = some (.int .i64 p) ∧ W.cell? ⟨Bp, 0, none⟩ = some (.slice a n c) ∧ W.cell? ⟨Bs, 0, none⟩ = some (.int .i64 s)
/-- The list q is the way through zs from p on by steps of s. -/
def IsWay (zs : List Int) (n : Nat) (p s : Int) (q : List Int) : Prop :=
  (∀ (k : Nat) (v : Int), q[k]? = some v → ∃ j : Nat, p + s * (k : Int) = (j : Int) ∧ j < n ∧ zs[j]? = some v) ∧ ¬ (0 ≤ p + s * (q.length : Int) ∧ p + s * (q.length : Int) < n) ∧ q.length ≤ 64

set_option maxRecDepth 100000 in
set_option maxHeartbeats 2000000 in
theorem along1_in (m l Ba Bp Bs n c : Nat) (a : Option Addr) (p s : Int) (zs q : List Int) (hm : 1 ≤ m) (hn : n ≤ 64) (hs : s = 1 ∨ s = -1) (hp0 : 0 ≤ p) (hp1 : p < 64) (hw : IsWay zs n p s q) (W0 : World) (hG : AlG Ba Bp Bs p s a n c W0) (hR : Row W0 a n (iv zs))
    (J Jx : List (Wel q) → World → Prop) (B : Nat) (hJ : AbidesFrom B J)
    (hY : ∀ pre x W, J pre W → pre.length < q.length → YieldAt Fence.wide (m - 1) Try.prog l (weEnc p s x) W fun e W' =>
      (e = .returned (.bool true) ∧ J (pre ++ [x]) W' ∧ Below W0.heap.size W W') ∨ (e = .returned (.bool false) ∧ Jx (pre ++ [x]) W'))
    (W : World) (hW : Below W0.heap.size W0 W) (h0 : J [] W) :
    CallsIn Fence.wide m Try.prog 101 #[.func (.yield l) #[] #[], .pointer (some ⟨Ba, 0, none⟩), .pointer (some ⟨Bp, 0, none⟩), .pointer (some ⟨Bs, 0, none⟩)] W fun e W' => (∃ v, e = .returned v) ∧
      ((∃ xs, WAll q.length xs ∧ J xs W') ∨ (∃ pre, (∃ k, WAll k pre) ∧ Jx pre W')) := by
  have HY := Lib.hid hY
  have HR := Lib.hid hR
  have HW := Lib.hid hw
  clear hY hR hw
  obtain ⟨g0, g1, g2⟩ := hG
  have HG := Lib.hid (⟨g0, g1, g2⟩ : AlG Ba Bp Bs p s a n c W0)
  have g0 := cell_later hW g0
  have g1 := cell_later hW g1
  have g2 := cell_later hW g2
  refine callsIn_of_wp Try.func101 rfl trivial ?_ rfl
  simp only [Try.ntmps101, List.size_toArray, List.length_cons, List.length_nil, Nat.reduceAdd, Nat.reduceSub, Array.replicate_succ, Array.replicate_zero, List.push_toArray, List.append_toArray, List.nil_append, List.cons_append]
  gi_wp2
  clear g0 g1 g2
  gi_loopw [5] (fun i wr => ∃ k : Nat, k ≤ q.length ∧ i = .int .i64 (p + s * (k : Int)) ∧ ∃ pre, WAll k pre ∧ J pre wr ∧ Hid (Below W0.heap.size W0 wr))
    (fun i _ => if s = 1 then q.length - (intOf i - p).toNat else q.length - (p - intOf i).toNat)
  case atStart => exact ⟨0, Nat.zero_le _, by simp, [], rfl, h0, hW⟩
  case round =>
    obtain ⟨k, hk, rfl, pre, hpre, hJs, hB'⟩ := hrel
    clear h0 hW
    have hB := hB'.out
    obtain ⟨c0, c1, c2⟩ := HG.out
    have c0 := cell_later hB c0
    have c1 := cell_later hB c1
    have c2 := cell_later hB c2
    have hq64 := HW.out.2.2
    have hsk : s * (k : Int) = k ∨ s * (k : Int) = -k := by rcases hs with rfl | rfl <;> simp
    obtain ⟨i, hi⟩ : ∃ i, p + s * (k : Int) = i := ⟨_, rfl⟩
    by_cases hlt : k < q.length
    · obtain ⟨v, hv⟩ : ∃ v, q[k]? = some v := ⟨_, List.getElem?_eq_getElem hlt⟩
      obtain ⟨j, hj, hjn, hz⟩ := HW.out.1 k v hv
      obtain ⟨bb, oo, z, rfl, hbb, hz2, cz⟩ := HR.out.int hjn
      rw [hz] at hz2; cases hz2
      have cz := cell_later hB cz
      rw [hi] at hj
      subst hj
      have i0 : (0 : Int) ≤ (j : Int) := by omega
      have i1 : (j : Int) < (n : Int) := by omega
      obtain ⟨fn, tmps, assign, body, hy, hR⟩ := HY.out pre ⟨(k, v), hv⟩ wr hJs (by rw [hpre.length]; exact hlt)
      dsimp only [weEnc] at hy
      rw [hi] at hy ⊢
      have hnx : p + s * ((k + 1 : Nat) : Int) = (j : Int) + s := by rw [← hi]; push_cast; rw [Int.mul_add, Int.mul_one, Int.add_assoc]
      have hwr : IntKind.i64.wrap ((j : Int) + s) = (j : Int) + s := IntWalk.i64_in _ (by omega)
      gi_wp2
      refine hR.mono ?_
      rintro e W3 (⟨rfl, hJ3, hk3⟩ | ⟨rfl, hJx3⟩)
      · have hB3 := hB.trans hk3
        obtain ⟨d0, d1, d2⟩ := HG.out
        have d2 := cell_later hB3 d2
        gi_wp2
        go_roundw
        case rel => exact ⟨k + 1, by omega, by rw [hnx], _, hpre.snoc _ rfl, hJ3, hB3⟩
        case measure => simp [intOf]; rcases hs with rfl | rfl <;> simp <;> omega
      · gi_wp2
        refine bodyPost_ret (results_none rfl _ _ _) rfl ?_
        exact ⟨⟨_, rfl⟩, .inr ⟨_, ⟨k + 1, hpre.snoc _ rfl⟩, hJx3⟩⟩
    · obtain rfl : k = q.length := by omega
      have he := HW.out.2.1
      rw [hi] at he ⊢
      have hib : -64 ≤ i ∧ i ≤ 128 := by omega
      by_cases h1 : 0 ≤ i
      · have h2 : decide (i < (n : Int)) = false := by simp; omega
        clear he
        gi_wp2
        go_end0
        exact ⟨⟨_, rfl⟩, .inl ⟨pre, hpre, hJs⟩⟩
      · clear he
        gi_wp2
        go_end0
        exact ⟨⟨_, rfl⟩, .inl ⟨pre, hpre, hJs⟩⟩

set_option maxHeartbeats 1000000 in
theorem along_any (p s : Int) (a : Option Addr) (n c : Nat) (w : World) :
    Calls Try.prog 73 #[.slice a n c, .int .i64 p, .int .i64 s] w fun e w' => e = .returned (.func (.func 101) #[] #[.pointer (some ⟨w.heap.size + 1, 0, none⟩), .pointer (some ⟨w.heap.size, 0, none⟩), .pointer (some ⟨w.heap.size + 1 + 1, 0, none⟩)]) ∧ w' = ((w.alloc (.cells #[.slice a n c] 27)).alloc (.cells #[.int .i64 p] 3)).alloc (.cells #[.int .i64 s] 3) := by
  go_enter Try.func73, Try.ntmps73
  go_wp2
  go_ret
  exact ⟨rfl, rfl⟩

/-- What a loop over a way may count on. -/
theorem along_stops (m Ba Bp Bs n c : Nat) (a : Option Addr) (p s : Int) (zs q : List Int) (hm : 1 ≤ m) (hn : n ≤ 64) (hs : s = 1 ∨ s = -1) (hp0 : 0 ≤ p) (hp1 : p < 64) (hw : IsWay zs n p s q) (W0 : World) (hG : AlG Ba Bp Bs p s a n c W0) (hR : Row W0 a n (iv zs)) :
    SeqStopsK Fence.wide m Try.prog 101 #[.pointer (some ⟨Ba, 0, none⟩), .pointer (some ⟨Bp, 0, none⟩), .pointer (some ⟨Bs, 0, none⟩)] (weEnc (q := q) p s) (Below W0.heap.size) (WAll q.length) (fun pre => ∃ k, WAll k pre) q.length W0 := fun l J Jx W hW hJ _ hY h0 =>
  along1_in m l Ba Bp Bs n c a p s zs q hm hn hs hp0 hp1 hw W0 hG hR J Jx _ hJ hY W hW h0
end Go.Proofs.Ytdimmnoflenfhaa
