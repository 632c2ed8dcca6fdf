/-
  The texts that the laws of this seat share, merged: part 1.
-/
import Derived.BigQuiet
import Derived.Deep.CutBlock
import Derived.Deep.DeepCutAuto
import Derived.Deep.Draws
import Derived.Deep.LoopGhost
import Derived.Deep.OwnRows
import Derived.Deep.QuietTactic
import Derived.Deep.RegionHeld3
import Derived.IntWalk
import Derived.Laws.AppendOwn
import Derived.Laws.Bits64b
import Derived.Lib.Hide
import Derived.Lib.ItoaNum
import Derived.LoopIn
import Derived.LoopNIn
import Derived.LoopTactic
import Derived.Maps.AppendAt
import Derived.OneCell
import Derived.Orders
import Derived.OwnWalkIn
import Derived.RangeFuncBound
import Derived.RangeFuncCalls
import Derived.RangeFuncLeaves
import Derived.RangeFuncNested
import Derived.Shelf.Abstract
import Derived.Shelf.AbstractIn
import Derived.Shelf.Bits.Mul64
import Derived.Shelf.RegionOpen
import Derived.Shelf.Small.Bits
import Derived.Shelf.Spec.BitsCarry
import Derived.Shelf.Strconv.Itoa0
import Derived.TacticsInMore
import Derived.Test.YtbcgebobfnclnaaProg
import Derived.WalkKit
import Derived.WalkLawsBesides
import Derived.WalkSmall
import Derived.WalkSpells
import Derived.Test.YtbcgebobfnclnaaM1
import Derived.Test.YtbcgebobfnclnaaM2
import Derived.Test.YtbcgebobfnclnaaM3
import Derived.Test.YtbcgebobfnclnaaM4
import Derived.Test.YtbcgebobfnclnaaM5
import Derived.Test.YtbcgebobfnclnaaM6
import Derived.Test.YtbcgebobfnclnaaM7
/-
  Layer 1: Floor, Ceil.
-/
namespace Go.Proofs.Ytbcgebobfnclnaa
open Go.RowKit

/-- The whole numbers next to a rational number. -/
def floorQ (q : Rat) : Int := fn q / fd q
def ceilQ (q : Rat) : Int := -((-fn q) / fd q)
theorem floor_parts (a b : Int) (hb : 1 ≤ b) : (a.tmod b < 0 → a.tdiv b - 1 = a / b) ∧ (¬ a.tmod b < 0 → a.tdiv b = a / b) ∧ (0 < a.tmod b → a.tdiv b + 1 = -((-a) / b)) ∧ (¬ 0 < a.tmod b → a.tdiv b = -((-a) / b)) ∧ -b < a.tmod b ∧ a.tmod b < b := by
  have e := Int.mul_tdiv_add_tmod a b
  have l : (a.tmod b).natAbs < b.natAbs := by rw [Int.natAbs_tmod]; exact Nat.mod_lt _ (by omega)
  have n1 := Int.mul_ediv_add_emod a b
  have n2 := Int.emod_nonneg a (show b ≠ 0 by omega)
  have n3 := Int.emod_lt_of_pos a (show 0 < b by omega)
  have p1 := Int.mul_ediv_add_emod (-a) b
  have p2 := Int.emod_nonneg (-a) (show b ≠ 0 by omega)
  have p3 := Int.emod_lt_of_pos (-a) (show 0 < b by omega)
  have u : ∀ x y r s : Int, b * x + r = b * y + s → -b < r - s → r - s < b → x = y := fun x y r s h1 h2 h3 => by
    have h4 : b * (x - y) = s - r := by rw [Int.mul_sub]; omega
    rcases Int.lt_trichotomy x y with h | h | h
    · exfalso
      have := Int.mul_le_mul_of_nonneg_left (show x - y ≤ -1 by omega) (show 0 ≤ b by omega)
      omega
    · exact h
    · exfalso
      have := Int.mul_le_mul_of_nonneg_left (show 1 ≤ x - y by omega) (show 0 ≤ b by omega)
      omega
  refine ⟨fun h => ?_, fun h => ?_, fun h => ?_, fun h => ?_, by omega, by omega⟩
  · exact u _ _ (a.tmod b + b) (a % b) (by rw [Int.mul_sub]; omega) (by omega) (by omega)
  · exact u _ _ (a.tmod b) (a % b) (by omega) (by omega) (by omega)
  · exact u _ _ (a.tmod b - b) (-((-a) % b)) (by rw [Int.mul_add, Int.mul_neg]; omega) (by omega) (by omega)
  · exact u _ _ (a.tmod b) (-((-a) % b)) (by rw [Int.mul_neg]; omega) (by omega) (by omega)

set_option maxHeartbeats 1000000 in
theorem floor_q (q : Rat) (hq : fits q) (w : World) :
    Calls Try.prog 47 #[.agg #[.int .i64 (fn q), .int .i64 (fd q)]] w fun e w' => e = .returned (.tuple #[.int .i64 (floorQ q), .int .i64 0]) ∧ Below w.heap.size w w' := by
  have hx : (ck (fn q) (fd q) != 0) = false := by rw [ck_ok (okF_q hq)]; rfl
  have f4 := fd_pos q
  obtain ⟨c1, c2, c3, c4, c5, c6⟩ := floor_parts (fn q) (fd q) f4
  unfold fits at hq
  obtain ⟨f1, f2, f3⟩ := hq
  have t := tdiv_in (fn q) (fd q) f1 f2
  have hv : ((fn q).tmod (fd q) < 0 → Hid ((fn q).tdiv (fd q) - 1 = floorQ q)) ∧ (¬ (fn q).tmod (fd q) < 0 → Hid ((fn q).tdiv (fd q) = floorQ q)) := ⟨c1, c2⟩
  obtain ⟨T, hT⟩ : ∃ T, (fn q).tdiv (fd q) = T := ⟨_, rfl⟩
  obtain ⟨R, hR⟩ : ∃ R, (fn q).tmod (fd q) = R := ⟨_, rfl⟩
  have v1 : IntKind.i64.wrap ((fn q).tdiv (fd q)) = T := by rw [hT] at t ⊢; exact IntWalk.i64_in _ (by omega)
  have v2 : IntKind.i64.wrap ((fn q).tmod (fd q)) = R := by rw [hR] at c5 c6 ⊢; exact IntWalk.i64_in _ (by omega)
  rw [hT] at hv t
  rw [hR] at hv c5 c6
  obtain ⟨t1, t2⟩ := t
  clear c1 c2 c3 c4 hT
  have v3 : ¬ fd q = 0 := by omega
  by_cases h : R < 0
  · have hs := hv.1 h
    clear hv
    go_enter Try.func47, Try.ntmps47
    go_wp2_with (go_at_call 90; (with_reducible refine (check_any (fn q) (fd q) _).mono ?_); rintro e w1 ⟨rfl, hb⟩; (first | ((with_reducible have k0 := Blk.later hb (Blk.new rfl)); skip; obtain ⟨a0, b0⟩ := k0.read; have zl := k0.lt) | ((try (have zk := k0.lt; (first | ((with_reducible refine Blk.keepG hb k0 (fun h => ?_) ?_); (focus ((repeat' (first | (with_reducible assumption) | ((with_reducible refine Blk.new ?_); first | rfl | (simp; done)) | (with_reducible refine Blk.later (by assumption) ?_) | (with_reducible refine Blk.alloc ?_) | (with_reducible refine Blk.drewN ?_) | (with_reducible refine Blk.drew ?_) | (with_reducible refine Blk.other ?_ (by first | omega | (simp; done) | (simp; omega))))); done)); clear k0; intro k0) | (with_reducible replace k0 := Blk.later hb (Blk.set (Blk.set k0))) | (with_reducible replace k0 := Blk.later hb (Blk.set k0))); clear a0 b0; obtain ⟨a0, b0⟩ := k0.read; have zl := k0.lt)))))
    go_ret2
    exact ⟨by rw [← hs.out]; rfl, by (repeat' (first | (with_reducible exact Below.refl _ _) | (with_reducible assumption) | (with_reducible refine belowThru ?_ (by assumption)) | (with_reducible refine belowAlloc ?_) | (with_reducible refine Below.setCell ?_ (by first | omega | (simp; done) | (simp; omega)) _) | (with_reducible refine Below.drew ?_) | (with_reducible refine below_drewN ?_ _)))⟩
  · have hs := hv.2 h
    clear hv
    go_enter Try.func47, Try.ntmps47
    go_wp2_with (go_at_call 90; (with_reducible refine (check_any (fn q) (fd q) _).mono ?_); rintro e w1 ⟨rfl, hb⟩; (first | ((with_reducible have k0 := Blk.later hb (Blk.new rfl)); skip; obtain ⟨a0, b0⟩ := k0.read; have zl := k0.lt) | ((try (have zk := k0.lt; (first | ((with_reducible refine Blk.keepG hb k0 (fun h => ?_) ?_); (focus ((repeat' (first | (with_reducible assumption) | ((with_reducible refine Blk.new ?_); first | rfl | (simp; done)) | (with_reducible refine Blk.later (by assumption) ?_) | (with_reducible refine Blk.alloc ?_) | (with_reducible refine Blk.drewN ?_) | (with_reducible refine Blk.drew ?_) | (with_reducible refine Blk.other ?_ (by first | omega | (simp; done) | (simp; omega))))); done)); clear k0; intro k0) | (with_reducible replace k0 := Blk.later hb (Blk.set (Blk.set k0))) | (with_reducible replace k0 := Blk.later hb (Blk.set k0))); clear a0 b0; obtain ⟨a0, b0⟩ := k0.read; have zl := k0.lt)))))
    go_ret2
    exact ⟨by rw [← hs.out]; rfl, by (repeat' (first | (with_reducible exact Below.refl _ _) | (with_reducible assumption) | (with_reducible refine belowThru ?_ (by assumption)) | (with_reducible refine belowAlloc ?_) | (with_reducible refine Below.setCell ?_ (by first | omega | (simp; done) | (simp; omega)) _) | (with_reducible refine Below.drew ?_) | (with_reducible refine below_drewN ?_ _)))⟩

set_option maxHeartbeats 1000000 in
theorem ceil_q (q : Rat) (hq : fits q) (w : World) :
    Calls Try.prog 48 #[.agg #[.int .i64 (fn q), .int .i64 (fd q)]] w fun e w' => e = .returned (.tuple #[.int .i64 (ceilQ q), .int .i64 0]) ∧ Below w.heap.size w w' := by
  have hx : (ck (fn q) (fd q) != 0) = false := by rw [ck_ok (okF_q hq)]; rfl
  have f4 := fd_pos q
  obtain ⟨c1, c2, c3, c4, c5, c6⟩ := floor_parts (fn q) (fd q) f4
  unfold fits at hq
  obtain ⟨f1, f2, f3⟩ := hq
  have t := tdiv_in (fn q) (fd q) f1 f2
  have hv : (0 < (fn q).tmod (fd q) → Hid ((fn q).tdiv (fd q) + 1 = ceilQ q)) ∧ (¬ 0 < (fn q).tmod (fd q) → Hid ((fn q).tdiv (fd q) = ceilQ q)) := ⟨c3, c4⟩
  obtain ⟨T, hT⟩ : ∃ T, (fn q).tdiv (fd q) = T := ⟨_, rfl⟩
  obtain ⟨R, hR⟩ : ∃ R, (fn q).tmod (fd q) = R := ⟨_, rfl⟩
  have v1 : IntKind.i64.wrap ((fn q).tdiv (fd q)) = T := by rw [hT] at t ⊢; exact IntWalk.i64_in _ (by omega)
  have v2 : IntKind.i64.wrap ((fn q).tmod (fd q)) = R := by rw [hR] at c5 c6 ⊢; exact IntWalk.i64_in _ (by omega)
  rw [hT] at hv t
  rw [hR] at hv c5 c6
  obtain ⟨t1, t2⟩ := t
  clear c1 c2 c3 c4 hT
  have v3 : ¬ fd q = 0 := by omega
  by_cases h : 0 < R
  · have hs := hv.1 h
    clear hv
    go_enter Try.func48, Try.ntmps48
    go_wp2_with (go_at_call 90; (with_reducible refine (check_any (fn q) (fd q) _).mono ?_); rintro e w1 ⟨rfl, hb⟩; (first | ((with_reducible have k0 := Blk.later hb (Blk.new rfl)); skip; obtain ⟨a0, b0⟩ := k0.read; have zl := k0.lt) | ((try (have zk := k0.lt; (first | ((with_reducible refine Blk.keepG hb k0 (fun h => ?_) ?_); (focus ((repeat' (first | (with_reducible assumption) | ((with_reducible refine Blk.new ?_); first | rfl | (simp; done)) | (with_reducible refine Blk.later (by assumption) ?_) | (with_reducible refine Blk.alloc ?_) | (with_reducible refine Blk.drewN ?_) | (with_reducible refine Blk.drew ?_) | (with_reducible refine Blk.other ?_ (by first | omega | (simp; done) | (simp; omega))))); done)); clear k0; intro k0) | (with_reducible replace k0 := Blk.later hb (Blk.set (Blk.set k0))) | (with_reducible replace k0 := Blk.later hb (Blk.set k0))); clear a0 b0; obtain ⟨a0, b0⟩ := k0.read; have zl := k0.lt)))))
    go_ret2
    exact ⟨by rw [← hs.out]; rfl, by (repeat' (first | (with_reducible exact Below.refl _ _) | (with_reducible assumption) | (with_reducible refine belowThru ?_ (by assumption)) | (with_reducible refine belowAlloc ?_) | (with_reducible refine Below.setCell ?_ (by first | omega | (simp; done) | (simp; omega)) _) | (with_reducible refine Below.drew ?_) | (with_reducible refine below_drewN ?_ _)))⟩
  · have hs := hv.2 h
    clear hv
    go_enter Try.func48, Try.ntmps48
    go_wp2_with (go_at_call 90; (with_reducible refine (check_any (fn q) (fd q) _).mono ?_); rintro e w1 ⟨rfl, hb⟩; (first | ((with_reducible have k0 := Blk.later hb (Blk.new rfl)); skip; obtain ⟨a0, b0⟩ := k0.read; have zl := k0.lt) | ((try (have zk := k0.lt; (first | ((with_reducible refine Blk.keepG hb k0 (fun h => ?_) ?_); (focus ((repeat' (first | (with_reducible assumption) | ((with_reducible refine Blk.new ?_); first | rfl | (simp; done)) | (with_reducible refine Blk.later (by assumption) ?_) | (with_reducible refine Blk.alloc ?_) | (with_reducible refine Blk.drewN ?_) | (with_reducible refine Blk.drew ?_) | (with_reducible refine Blk.other ?_ (by first | omega | (simp; done) | (simp; omega))))); done)); clear k0; intro k0) | (with_reducible replace k0 := Blk.later hb (Blk.set (Blk.set k0))) | (with_reducible replace k0 := Blk.later hb (Blk.set k0))); clear a0 b0; obtain ⟨a0, b0⟩ := k0.read; have zl := k0.lt)))))
    go_ret2
    exact ⟨by rw [← hs.out]; rfl, by (repeat' (first | (with_reducible exact Below.refl _ _) | (with_reducible assumption) | (with_reducible refine belowThru ?_ (by assumption)) | (with_reducible refine belowAlloc ?_) | (with_reducible refine Below.setCell ?_ (by first | omega | (simp; done) | (simp; omega)) _) | (with_reducible refine Below.drew ?_) | (with_reducible refine below_drewN ?_ _)))⟩

end Go.Proofs.Ytbcgebobfnclnaa
/-
  Layer 5: where a profile is bright first: the mathematics.
-/
namespace Go.Proofs.Ytbcgebobfnclnaa
open Go.RowKit Go.Shelf
set_option linter.unusedVariables false
set_option linter.unusedSimpArgs false

theorem floorQ_int (M : Int) (h : -64 ≤ M ∧ M ≤ 64) : floorQ (M : Rat) = M ∧ ceilQ (M : Rat) = M := by
  obtain ⟨-, e1, e2⟩ := fits_int h
  unfold floorQ ceilQ
  rw [e1, e2]; omega
theorem rat_parts (x : Rat) : x * ((fd x : Int) : Rat) = ((fn x : Int) : Rat) := by
  have h := mkR_self x
  rw [mkR_div] at h
  have := int_pos (show 0 < fd x by have := fd_pos x; omega)
  grind
theorem rat_lt_parts {x : Rat} {M : Int} : (((M : Int) : Rat) < x ↔ M * fd x < fn x) ∧ (x < ((M : Int) : Rat) ↔ fn x < M * fd x) := by
  have e := rat_parts x
  have p := int_pos (show 0 < fd x by have := fd_pos x; omega)
  have c : ((M * fd x : Int) : Rat) = ((M : Int) : Rat) * ((fd x : Int) : Rat) := Rat.intCast_mul _ _
  have a1 : ((M * fd x : Int) : Rat) < ((fn x : Int) : Rat) ↔ M * fd x < fn x := Rat.intCast_lt_intCast
  have a2 : ((fn x : Int) : Rat) < ((M * fd x : Int) : Rat) ↔ fn x < M * fd x := Rat.intCast_lt_intCast
  rw [c, ← e] at a1 a2
  have m1 : ∀ a b : Rat, a < b ↔ a * ((fd x : Int) : Rat) < b * ((fd x : Int) : Rat) := fun a b => (Rat.mul_lt_mul_right p).symm
  exact ⟨(m1 _ _).trans a1, (m1 _ _).trans a2⟩
/-- Strictly between two neighbours. -/
theorem floorQ_between {x : Rat} {M : Int} (h1 : ((M : Int) : Rat) < x) (h2 : x < (((M + 1 : Int)) : Rat)) : floorQ x = M ∧ ceilQ x = M + 1 := by
  have k1 := rat_lt_parts.1.1 h1
  have k2 := rat_lt_parts.2.1 h2
  have p := fd_pos x
  rw [Int.add_mul, Int.one_mul] at k2
  unfold floorQ ceilQ
  constructor
  · refine Int.le_antisymm ?_ ?_
    · have := (Int.ediv_lt_iff_lt_mul (a := fn x) (b := M + 1) (c := fd x) (by omega)).2 (by rw [Int.add_mul, Int.one_mul]; exact k2); omega
    · exact (Int.le_ediv_iff_mul_le (by omega)).2 (by omega)
  · have a := (Int.le_ediv_iff_mul_le (a := -(M + 1)) (b := -fn x) (c := fd x) (by omega)).2 (by rw [Int.neg_mul, Int.add_mul, Int.one_mul]; omega)
    have b := (Int.ediv_lt_iff_lt_mul (a := -fn x) (b := -M) (c := fd x) (by omega)).2 (by rw [Int.neg_mul]; omega)
    omega
/-- The first bright place of a profile, in three forms. -/
theorem FX_forms {t : Int} {zs : List Int} {p : Nat} (hp : p < zs.length) {x : Rat} (h : FX t zs p = some x) :
    (x = ((p : Int) : Rat) ∧ ∃ z, zs[p]? = some z ∧ t ≤ z) ∨
    (∃ m : Nat, p < m ∧ m < zs.length ∧ x = ((m : Int) : Rat) ∧ zs[m]? = some t ∧ ∀ k v, p ≤ k → k < m → zs[k]? = some v → v < t) ∨
    (∃ (q : Nat) (u v : Int), p ≤ q ∧ q + 1 < zs.length ∧ zs[q]? = some u ∧ zs[q + 1]? = some v ∧ u < t ∧ t < v ∧ ((q : Int) : Rat) < x ∧ x < (((q : Int) + 1 : Int) : Rat) ∧ (x - ((q : Int) : Rat)) * ((v - u : Int) : Rat) = ((t - u : Int) : Rat) ∧ ∀ k v, p ≤ k → k < q + 1 → zs[k]? = some v → v < t) := by
  unfold FX br at h
  obtain ⟨d, hd, rfl⟩ := Option.map_eq_some_iff.1 h
  obtain ⟨j, hj, rfl⟩ := Option.map_eq_some_iff.1 hd
  obtain ⟨v, hv, hge, hk⟩ := fb_some.1 hj
  rw [drop_get] at hv
  have dark : ∀ k w, p ≤ k → k < p + j → zs[k]? = some w → w < t := fun k w h1 h2 hw => hk (k - p) (by omega) w (by rw [drop_get, show p + (k - p) = k by omega]; exact hw)
  cases j with
  | zero => exact Or.inl ⟨by rw [pl_zero]; grind, v, hv, hge⟩
  | succ j =>
    have hjl := fb_lt hj
    rw [List.length_drop] at hjl
    obtain ⟨v', u, hv', hu, h1, h2⟩ := fb_step hj
    rw [pl_succ t _ j hv' hu]
    rw [drop_get] at hv' hu
    rw [hv] at hv'
    obtain rfl := Option.some.inj hv'
    right
    by_cases e : v = t
    · left
      subst e
      refine ⟨p + (j + 1), by omega, by omega, ?_, hv, dark⟩
      rw [show (v - v : Int) = 0 by omega, show ((p + (j + 1) : Nat) : Int) = (p : Int) + ((j : Int) + 1) by omega, Rat.intCast_add, Rat.intCast_add]
      have := int_pos (show 0 < v - u by omega)
      grind
    · right
      have q0 := int_pos (show 0 < v - t by omega)
      have q1 := int_pos (show 0 < v - u by omega)
      have q2 := int_pos (show 0 < t - u by omega)
      have q3 : ((v - u : Int) : Rat) = ((v - t : Int) : Rat) + ((t - u : Int) : Rat) := by rw [← Rat.intCast_add]; congr 1; omega
      have q4 : ((p + j : Nat) : Int) = (p : Int) + (j : Int) := by omega
      refine ⟨p + j, u, v, by omega, by omega, hu, by rw [show p + j + 1 = p + (j + 1) by omega]; exact hv, h1, by omega, ?_⟩
      have fb := quo_bounds (a := v - t) (b := v - u) (by omega) (by omega) (by omega)
      obtain ⟨r, hr⟩ : ∃ r : Rat, ((v - u : Int) : Rat) = r := ⟨_, rfl⟩
      obtain ⟨s, hs⟩ : ∃ s : Rat, ((v - t : Int) : Rat) = s := ⟨_, rfl⟩
      obtain ⟨y, hy⟩ : ∃ y : Rat, ((t - u : Int) : Rat) = y := ⟨_, rfl⟩
      obtain ⟨f, hf⟩ : ∃ f : Rat, f = s / r := ⟨_, rfl⟩
      rw [hr] at q1 q3 fb ⊢
      rw [hs] at q0 q3 fb ⊢
      rw [hy] at q2 q3 ⊢
      have fm : f * r = s := by rw [hf]; grind
      rw [← hf] at fb
      have f0 : 0 < f := by
        rcases Rat.le_iff_lt_or_eq.1 fb.1 with h | h
        · exact h
        · exfalso; rw [← h] at fm; grind
      have f1 : f < 1 := fb.2
      rw [← hf, q4, Rat.intCast_add ((p : Int) + (j : Int)) 1, Rat.intCast_add]
      refine ⟨by grind, ?_, by grind, fun k w h1 h2 => dark k w h1 (by omega)⟩
      have : ((1 : Int) : Rat) = 1 := rfl
      rw [this]; grind
end Go.Proofs.Ytbcgebobfnclnaa
