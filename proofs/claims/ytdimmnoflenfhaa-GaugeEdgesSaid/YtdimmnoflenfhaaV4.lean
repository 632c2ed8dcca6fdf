/-
  The texts that the laws of this seat share, merged: part 4.
-/
import Derived.BigQuiet
import Derived.Deep.CutBlock
import Derived.Deep.DeepCutAuto
import Derived.Deep.Draws
import Derived.Deep.LoopGhost
import Derived.Deep.OwnRows
import Derived.Deep.QuietTactic
import Derived.Deep.RegionHeld3
import Derived.Deep.RegionLaw
import Derived.IntWalk
import Derived.Laws.AppendOwn
import Derived.Laws.Bits64b
import Derived.Lib.Hide
import Derived.Lib.ItoaNum
import Derived.LoopIn
import Derived.LoopNIn
import Derived.LoopTactic
import Derived.Maps.AppendAt
import Derived.OneCell
import Derived.Orders
import Derived.OwnWalkIn
import Derived.RangeFuncBound
import Derived.RangeFuncCalls
import Derived.RangeFuncLeaves
import Derived.RangeFuncNested
import Derived.Shelf.Abstract
import Derived.Shelf.AbstractIn
import Derived.Shelf.Bits.Mul64
import Derived.Shelf.RegionOpen
import Derived.Shelf.Small.Bits
import Derived.Shelf.Spec.BitsCarry
import Derived.Shelf.Strconv.Itoa0
import Derived.TacticsInMore
import Derived.Test.YtdimmnoflenfhaaProg
import Derived.WalkKit
import Derived.WalkLawsBesides
import Derived.WalkSmall
import Derived.WalkSpells
import Derived.Test.YtdimmnoflenfhaaV1
import Derived.Test.YtdimmnoflenfhaaV2
import Derived.Test.YtdimmnoflenfhaaV3
/-
  Plain arithmetic for the document's own answers: numbers of two words, and a division bit by bit.
-/
namespace Go.Proofs.Ytdimmnoflenfhaa

theorem less_iff (a b : Int) (a0 : 0 ≤ a) (a1 : a < 340282366920938463463374607431768211456) (b0 : 0 ≤ b) (b1 : b < 340282366920938463463374607431768211456) :
    (whi a < whi b ∨ (whi a = whi b ∧ wlo a < wlo b)) ↔ a < b := by
  unfold whi wlo B64; omega
theorem wlo_odd (q : Int) : wlo (2 * q + 1) = wlo (2 * q) + 1 ∧ whi (2 * q + 1) = whi (2 * q) := by
  unfold whi wlo B64; omega
theorem step_part (A b t : Int) (hb : 1 ≤ b) (t0 : 0 ≤ t) (t1 : t ≤ 1) :
    (2 * (A % b) + t < b → (2 * A + t) / b = 2 * (A / b) ∧ (2 * A + t) % b = 2 * (A % b) + t) ∧ (¬ 2 * (A % b) + t < b → (2 * A + t) / b = 2 * (A / b) + 1 ∧ (2 * A + t) % b = 2 * (A % b) + t - b) := by
  have r0 := Int.emod_nonneg A (show b ≠ 0 by omega)
  have r1 := Int.emod_lt_of_pos A (show 0 < b by omega)
  have e := Int.mul_ediv_add_emod A b
  generalize A / b = q at *
  generalize A % b = r at *
  constructor <;> intro h
  · have := (Int.ediv_emod_unique (a := 2 * A + t) (b := b) (r := 2 * r + t) (q := 2 * q) (by omega)).2 ⟨by rw [← e]; grind, by omega, by omega⟩
    exact ⟨this.1, this.2⟩
  · have := (Int.ediv_emod_unique (a := 2 * A + t) (b := b) (r := 2 * r + t - b) (q := 2 * q + 1) (by omega)).2 ⟨by rw [← e]; grind, by omega, by omega⟩
    exact ⟨this.1, this.2⟩
theorem half_up (a : Int) (k : Nat) : a / 2 ^ k = 2 * (a / 2 ^ (k + 1)) + a / 2 ^ k % 2 := by
  rw [Int.pow_succ, ← Int.ediv_ediv_of_nonneg (by exact Int.le_of_lt (Int.pow_pos (by decide)))]; omega
theorem bit_hi (a : Int) (j : Nat) (a0 : 0 ≤ a) (a1 : a < 340282366920938463463374607431768211456) : whi a / 2 ^ j % 2 = a / 2 ^ (j + 64) % 2 := by
  have e : whi a = a / 2 ^ 64 := by unfold whi B64; omega
  rw [e, Int.ediv_ediv_of_nonneg (by decide), ← Int.pow_add, Nat.add_comm]
theorem bit_lo (a : Int) (j : Nat) (hj : j < 64) : wlo a / 2 ^ j % 2 = a / 2 ^ j % 2 := by
  have e : a = wlo a + 2 ^ 64 * (a / 2 ^ 64) := by unfold wlo B64; omega
  have e2 : (2 : Int) ^ 64 = 2 ^ j * (2 * 2 ^ (63 - j)) := by
    rw [← Int.mul_assoc, ← Int.pow_succ, ← Int.pow_add]; congr 1; omega
  generalize a / 2 ^ 64 = c at *
  have hp : (2 : Int) ^ j ≠ 0 := by exact Int.ne_of_gt (Int.pow_pos (by decide))
  have e3 : a / 2 ^ j = wlo a / 2 ^ j + 2 * (2 ^ (63 - j) * c) := by
    conv => lhs; rw [e]
    rw [e2, Int.mul_assoc, Int.add_mul_ediv_left _ _ hp, Int.mul_assoc]
  rw [e3]; omega
end Go.Proofs.Ytdimmnoflenfhaa
/-
  The document's own answers, layer 1: numbers of two words.
-/
namespace Go.Proofs.Ytdimmnoflenfhaa
open Go.RowKit

set_option maxHeartbeats 400000 in
theorem rtimes_any (x y : Int) (hx0 : 0 ≤ x) (hx : x ≤ 9223372036854775808) (hy0 : 0 ≤ y) (hy : y ≤ 9223372036854775808) (w : World) :
    Calls Try.prog 114 #[.int .u64 x, .int .u64 y] w fun e w' => e = .returned (.agg #[.int .u64 (whi (x * y)), .int .u64 (wlo (x * y))]) ∧ Below w.heap.size w w' := by
  have HM := Lib.hid (mul64_mag x y _ hx0 hx hy0 hy rfl)
  clear hx0 hx hy0 hy
  go_enter Try.func114, Try.ntmps114
  go_wp2_with (go_at_call 127; (with_reducible refine (HM.out _).mono ?_); rintro e w1 ⟨rfl, rfl⟩)
  exact bodyPost_ret (v := .agg #[.int .u64 (whi (x * y)), .int .u64 (wlo (x * y))]) (by simp only [results, Try.results114]; go_simp) rfl ⟨rfl, by (repeat' (first | (with_reducible exact Below.refl _ _) | (with_reducible assumption) | (with_reducible refine belowThru ?_ (by assumption)) | (with_reducible refine belowAlloc ?_) | (with_reducible refine Below.setCell ?_ (by first | omega | (simp; done) | (simp; omega)) _) | (with_reducible refine Below.drew ?_) | (with_reducible refine below_drewN ?_ _)))⟩

set_option maxHeartbeats 400000 in
theorem rplus_any (a b : Int) (w : World) :
    Calls Try.prog 118 #[.agg #[.int .u64 (whi a), .int .u64 (wlo a)], .agg #[.int .u64 (whi b), .int .u64 (wlo b)]] w fun e w' => e = .returned (.agg #[.int .u64 (whi (a + b)), .int .u64 (wlo (a + b))]) ∧ Below w.heap.size w w' := by
  have e1 : IntKind.u64.wrap (IntKind.u64.wrap (whi a + whi b) + car a b) = whi (a + b) := by rw [IntKind.wrap_u64, IntKind.wrap_u64, whi_add]; omega
  go_enter Try.func118, Try.ntmps118
  go_wp2_with (first | simp only [add64_lo] | simp only [add64_hi])
  exact bodyPost_ret (v := .agg #[.int .u64 (whi (a + b)), .int .u64 (wlo (a + b))]) (by simp only [results, Try.results118]; go_simp) rfl ⟨rfl, by (repeat' (first | (with_reducible exact Below.refl _ _) | (with_reducible assumption) | (with_reducible refine belowThru ?_ (by assumption)) | (with_reducible refine belowAlloc ?_) | (with_reducible refine Below.setCell ?_ (by first | omega | (simp; done) | (simp; omega)) _) | (with_reducible refine Below.drew ?_) | (with_reducible refine below_drewN ?_ _)))⟩

set_option maxHeartbeats 400000 in
theorem rminus_any (a b : Int) (w : World) :
    Calls Try.prog 120 #[.agg #[.int .u64 (whi a), .int .u64 (wlo a)], .agg #[.int .u64 (whi b), .int .u64 (wlo b)]] w fun e w' => e = .returned (.agg #[.int .u64 (whi (a - b)), .int .u64 (wlo (a - b))]) ∧ Below w.heap.size w w' := by
  have e1 : IntKind.u64.wrap (IntKind.u64.wrap (whi a - whi b) - bor a b) = whi (a - b) := by rw [IntKind.wrap_u64, IntKind.wrap_u64, whi_sub]; omega
  go_enter Try.func120, Try.ntmps120
  go_wp2_with (first | simp only [sub64_lo] | simp only [sub64_hi])
  exact bodyPost_ret (v := .agg #[.int .u64 (whi (a - b)), .int .u64 (wlo (a - b))]) (by simp only [results, Try.results120]; go_simp) rfl ⟨rfl, by (repeat' (first | (with_reducible exact Below.refl _ _) | (with_reducible assumption) | (with_reducible refine belowThru ?_ (by assumption)) | (with_reducible refine belowAlloc ?_) | (with_reducible refine Below.setCell ?_ (by first | omega | (simp; done) | (simp; omega)) _) | (with_reducible refine Below.drew ?_) | (with_reducible refine below_drewN ?_ _)))⟩

set_option maxHeartbeats 400000 in
theorem rless_any (a b : Int) (a0 : 0 ≤ a) (a1 : a < 340282366920938463463374607431768211456) (b0 : 0 ≤ b) (b1 : b < 340282366920938463463374607431768211456) (w : World) :
    Calls Try.prog 119 #[.agg #[.int .u64 (whi a), .int .u64 (wlo a)], .agg #[.int .u64 (whi b), .int .u64 (wlo b)]] w fun e w' => e = .returned (.bool (decide (a < b))) ∧ Below w.heap.size w w' := by
  have h := less_iff a b a0 a1 b0 b1
  clear a0 a1 b0 b1
  by_cases c1 : whi a < whi b
  · rw [decide_eq_true (h.1 (.inl c1))]
    clear h
    go_enter Try.func119, Try.ntmps119
    go_wp2
    go_ret
    exact ⟨rfl, by (repeat' (first | (with_reducible exact Below.refl _ _) | (with_reducible assumption) | (with_reducible refine belowThru ?_ (by assumption)) | (with_reducible refine belowAlloc ?_) | (with_reducible refine Below.setCell ?_ (by first | omega | (simp; done) | (simp; omega)) _) | (with_reducible refine Below.drew ?_) | (with_reducible refine below_drewN ?_ _)))⟩
  · by_cases c2 : whi a = whi b
    · have c3 : (whi a == whi b) = true := by simpa using c2
      by_cases c4 : wlo a < wlo b
      · rw [decide_eq_true (h.1 (.inr ⟨c2, c4⟩))]
        clear h c2
        go_enter Try.func119, Try.ntmps119
        go_wp2
        go_ret
        exact ⟨rfl, by (repeat' (first | (with_reducible exact Below.refl _ _) | (with_reducible assumption) | (with_reducible refine belowThru ?_ (by assumption)) | (with_reducible refine belowAlloc ?_) | (with_reducible refine Below.setCell ?_ (by first | omega | (simp; done) | (simp; omega)) _) | (with_reducible refine Below.drew ?_) | (with_reducible refine below_drewN ?_ _)))⟩
      · rw [decide_eq_false (fun k => (h.2 k).elim c1 (fun k => c4 k.2))]
        clear h c2
        go_enter Try.func119, Try.ntmps119
        go_wp2
        go_ret
        exact ⟨rfl, by (repeat' (first | (with_reducible exact Below.refl _ _) | (with_reducible assumption) | (with_reducible refine belowThru ?_ (by assumption)) | (with_reducible refine belowAlloc ?_) | (with_reducible refine Below.setCell ?_ (by first | omega | (simp; done) | (simp; omega)) _) | (with_reducible refine Below.drew ?_) | (with_reducible refine below_drewN ?_ _)))⟩
    · have c3 : (whi a == whi b) = false := by simpa using c2
      rw [decide_eq_false (fun k => (h.2 k).elim c1 (fun k => c2 k.1))]
      clear h c2
      go_enter Try.func119, Try.ntmps119
      go_wp2
      go_ret
      exact ⟨rfl, by (repeat' (first | (with_reducible exact Below.refl _ _) | (with_reducible assumption) | (with_reducible refine belowThru ?_ (by assumption)) | (with_reducible refine belowAlloc ?_) | (with_reducible refine Below.setCell ?_ (by first | omega | (simp; done) | (simp; omega)) _) | (with_reducible refine Below.drew ?_) | (with_reducible refine below_drewN ?_ _)))⟩

set_option maxHeartbeats 400000 in
theorem rsize_any (n : Int) (h1 : -9223372036854775808 ≤ n) (h2 : n ≤ 9223372036854775807) (w : World) :
    Calls Try.prog 115 #[.int .i64 n] w fun e w' => e = .returned (.int .u64 (mag n)) ∧ w = w' := by
  rcases (show n < 0 ∨ 0 ≤ n by omega) with h | h
  · go_enter Try.func115, Try.ntmps115
    go_wp2
    go_ret
    refine ⟨?_, rfl⟩
    rw [mag_neg n h, IntKind.wrap_u64, IntKind.wrap_u64, show (-(n % 18446744073709551616)) % 18446744073709551616 = -n by omega]
    rfl
  · go_enter Try.func115, Try.ntmps115
    go_wp2
    go_ret
    refine ⟨?_, rfl⟩
    rw [mag_pos n h]
    rfl

set_option maxHeartbeats 400000 in
theorem rbit_any (a : Int) (k : Nat) (hk : k < 128) (a0 : 0 ≤ a) (a1 : a < 340282366920938463463374607431768211456) (w : World) :
    Calls Try.prog 133 #[.agg #[.int .u64 (whi a), .int .u64 (wlo a)], .int .i64 k] w fun e w' => e = .returned (.int .u64 (a / 2 ^ k % 2)) ∧ Below w.heap.size w w' := by
  by_cases h : 64 ≤ k
  · obtain ⟨j, rfl⟩ : ∃ j, k = j + 64 := ⟨k - 64, by omega⟩
    have e1 := bit_hi a j a0 a1
    have d0 := Int.ediv_nonneg (whi_lo a) (Int.le_of_lt (Int.pow_pos (show (0 : Int) < 2 by decide) : (0 : Int) < 2 ^ j))
    have d1 : whi a / 2 ^ j ≤ 18446744073709551615 := Int.le_trans (Int.ediv_le_self _ (whi_lo a)) (whi_hi a)
    have e2 := and_one_u64 (whi a / 2 ^ j) d0 d1
    have e3 : IntKind.i64.wrap (((j + 64 : Nat) : Int) - 64) = (j : Int) := by rw [IntWalk.i64_in _ (by omega)]; omega
    have e4 : ((j : Int)).toNat = j := by omega
    rw [← e1, ← e2]
    have c1 : (64 : Int) ≤ ((j + 64 : Nat) : Int) := by omega
    have c2 : ¬ (j : Int) < 0 := by omega
    clear e1 e2 a0 a1
    go_enter Try.func133, Try.ntmps133
    go_wp2
    go_ret
    exact ⟨rfl, by (repeat' (first | (with_reducible exact Below.refl _ _) | (with_reducible assumption) | (with_reducible refine belowThru ?_ (by assumption)) | (with_reducible refine belowAlloc ?_) | (with_reducible refine Below.setCell ?_ (by first | omega | (simp; done) | (simp; omega)) _) | (with_reducible refine Below.drew ?_) | (with_reducible refine below_drewN ?_ _)))⟩
  · have e1 := bit_lo a k (by omega)
    have d0 := Int.ediv_nonneg (wlo_lo a) (Int.le_of_lt (Int.pow_pos (show (0 : Int) < 2 by decide) : (0 : Int) < 2 ^ k))
    have d1 : wlo a / 2 ^ k ≤ 18446744073709551615 := Int.le_trans (Int.ediv_le_self _ (wlo_lo a)) (wlo_hi a)
    have e2 := and_one_u64 (wlo a / 2 ^ k) d0 d1
    have e4 : ((k : Int)).toNat = k := by omega
    rw [← e1, ← e2]
    have c1 : ¬ (64 : Int) ≤ (k : Int) := by omega
    have c2 : ¬ (k : Int) < 0 := by omega
    clear e1 e2 a0 a1
    go_enter Try.func133, Try.ntmps133
    go_wp2
    go_ret
    exact ⟨rfl, by (repeat' (first | (with_reducible exact Below.refl _ _) | (with_reducible assumption) | (with_reducible refine belowThru ?_ (by assumption)) | (with_reducible refine belowAlloc ?_) | (with_reducible refine Below.setCell ?_ (by first | omega | (simp; done) | (simp; omega)) _) | (with_reducible refine Below.drew ?_) | (with_reducible refine below_drewN ?_ _)))⟩
end Go.Proofs.Ytdimmnoflenfhaa
/-
  The document's own answers, layer 1: division bit by bit, common divisors.
-/
namespace Go.Proofs.Ytdimmnoflenfhaa
open Go.RowKit

theorem whi_zero : whi 0 = 0 := rfl
theorem wlo_zero : wlo 0 = 0 := rfl

set_option maxRecDepth 100000 in
set_option maxHeartbeats 2000000 in
theorem parted_any (a b : Int) (a0 : 0 ≤ a) (a1 : a < 340282366920938463463374607431768211456) (b0 : 1 ≤ b) (b1 : b ≤ 170141183460469231731687303715884105728) (w : World) :
    Calls Try.prog 131 #[.agg #[.int .u64 (whi a), .int .u64 (wlo a)], .agg #[.int .u64 (whi b), .int .u64 (wlo b)]] w fun e w' => e = .returned (.tuple #[.agg #[.int .u64 (whi (a / b)), .int .u64 (wlo (a / b))], .agg #[.int .u64 (whi (a % b)), .int .u64 (wlo (a % b))]]) ∧ Below w.heap.size w w' := by
  have HB := Lib.hid (⟨a0, a1, b0, b1⟩ : 0 ≤ a ∧ a < 340282366920938463463374607431768211456 ∧ 1 ≤ b ∧ b ≤ 170141183460469231731687303715884105728)
  have s0 : a / 2 ^ 128 / b = 0 := by
    rw [Int.ediv_eq_zero_of_lt a0 (by omega), Int.zero_ediv]
  have s1 : a / 2 ^ 128 % b = 0 := by
    rw [Int.ediv_eq_zero_of_lt a0 (by omega), Int.zero_emod]
  clear a0 a1 b0 b1
  go_enter Try.func131, Try.ntmps131
  go_wp2
  go_loopw [8] (fun i wr => ∃ n : Int, -1 ≤ n ∧ n ≤ 127 ∧ i = .int .i64 n ∧ Blk wr w.heap.size #[.int .u64 (whi a), .int .u64 (wlo a)] 141 ∧ Blk wr (w.heap.size + 1) #[.int .u64 (whi b), .int .u64 (wlo b)] 141 ∧ Blk wr (w.heap.size + 1 + 1) #[.int .u64 0, .int .u64 0] 141 ∧ Blk wr (w.heap.size + 1 + 1 + 1) #[.int .u64 0, .int .u64 0] 141 ∧ Blk wr (w.heap.size + 1 + 1 + 1 + 1) #[.int .u64 (whi (a / 2 ^ (n + 1).toNat / b)), .int .u64 (wlo (a / 2 ^ (n + 1).toNat / b))] 141 ∧ Blk wr (w.heap.size + 1 + 1 + 1 + 1 + 1) #[.int .u64 (whi (a / 2 ^ (n + 1).toNat % b)), .int .u64 (wlo (a / 2 ^ (n + 1).toNat % b))] 141 ∧ Below w.heap.size w wr) (fun i _ => (intOf i + 1).toNat)
  case atStart =>
    refine ⟨127, by omega, by omega, rfl, by (repeat' (first | (with_reducible assumption) | ((with_reducible refine Blk.new ?_); first | rfl | (simp; done)) | (with_reducible refine Blk.later (by assumption) ?_) | (with_reducible refine Blk.alloc ?_) | (with_reducible refine Blk.drewN ?_) | (with_reducible refine Blk.drew ?_) | (with_reducible refine Blk.other ?_ (by first | omega | (simp; done) | (simp; omega))))), by (repeat' (first | (with_reducible assumption) | ((with_reducible refine Blk.new ?_); first | rfl | (simp; done)) | (with_reducible refine Blk.later (by assumption) ?_) | (with_reducible refine Blk.alloc ?_) | (with_reducible refine Blk.drewN ?_) | (with_reducible refine Blk.drew ?_) | (with_reducible refine Blk.other ?_ (by first | omega | (simp; done) | (simp; omega))))), by (repeat' (first | (with_reducible assumption) | ((with_reducible refine Blk.new ?_); first | rfl | (simp; done)) | (with_reducible refine Blk.later (by assumption) ?_) | (with_reducible refine Blk.alloc ?_) | (with_reducible refine Blk.drewN ?_) | (with_reducible refine Blk.drew ?_) | (with_reducible refine Blk.other ?_ (by first | omega | (simp; done) | (simp; omega))))), by (repeat' (first | (with_reducible assumption) | ((with_reducible refine Blk.new ?_); first | rfl | (simp; done)) | (with_reducible refine Blk.later (by assumption) ?_) | (with_reducible refine Blk.alloc ?_) | (with_reducible refine Blk.drewN ?_) | (with_reducible refine Blk.drew ?_) | (with_reducible refine Blk.other ?_ (by first | omega | (simp; done) | (simp; omega))))), ?_, ?_, by (repeat' (first | (with_reducible exact Below.refl _ _) | (with_reducible assumption) | (with_reducible refine belowThru ?_ (by assumption)) | (with_reducible refine belowAlloc ?_) | (with_reducible refine Below.setCell ?_ (by first | omega | (simp; done) | (simp; omega)) _) | (with_reducible refine Below.drew ?_) | (with_reducible refine below_drewN ?_ _)))⟩
    · rw [show ((127 : Int) + 1).toNat = 128 from rfl, s0, whi_zero, wlo_zero]; (repeat' (first | (with_reducible assumption) | ((with_reducible refine Blk.new ?_); first | rfl | (simp; done)) | (with_reducible refine Blk.later (by assumption) ?_) | (with_reducible refine Blk.alloc ?_) | (with_reducible refine Blk.drewN ?_) | (with_reducible refine Blk.drew ?_) | (with_reducible refine Blk.other ?_ (by first | omega | (simp; done) | (simp; omega)))))
    · rw [show ((127 : Int) + 1).toNat = 128 from rfl, s1, whi_zero, wlo_zero]; (repeat' (first | (with_reducible assumption) | ((with_reducible refine Blk.new ?_); first | rfl | (simp; done)) | (with_reducible refine Blk.later (by assumption) ?_) | (with_reducible refine Blk.alloc ?_) | (with_reducible refine Blk.drewN ?_) | (with_reducible refine Blk.drew ?_) | (with_reducible refine Blk.other ?_ (by first | omega | (simp; done) | (simp; omega)))))
  case round =>
    obtain ⟨n, n0, n1, rfl, k0, k1, k2, k3, k4, k5, hB⟩ := hrel
    obtain ⟨a0, b0⟩ := k0.read; obtain ⟨a1, b1⟩ := k1.read; obtain ⟨a2, b2⟩ := k2.read; obtain ⟨a3, b3⟩ := k3.read; obtain ⟨a4, b4⟩ := k4.read; obtain ⟨a5, b5⟩ := k5.read
    have z0 := k0.lt; have z5 := k5.lt
    by_cases hn : 0 ≤ n
    · obtain ⟨j, rfl⟩ := Int.eq_ofNat_of_zero_le hn
      rw [show ((j : Int) + 1).toNat = j + 1 by omega] at k4 k5 a4 a5
      have hb := HB.out
      have hu := half_up a j
      have t0 := Int.emod_nonneg (a / 2 ^ j) (show (2 : Int) ≠ 0 by decide)
      have t1 := Int.emod_lt_of_pos (a / 2 ^ j) (show (0 : Int) < 2 by decide)
      have HBI := Lib.hid (fun w => rbit_any a j (by omega) hb.1 hb.2.1 w)
      have R0 := Int.emod_nonneg (a / 2 ^ (j + 1)) (show b ≠ 0 by omega)
      have R1 := Int.emod_lt_of_pos (a / 2 ^ (j + 1)) (show 0 < b by omega)
      have st := step_part (a / 2 ^ (j + 1)) b (a / 2 ^ j % 2) (by omega) t0 (by omega)
      rw [← hu] at st
      clear hu
      obtain ⟨t, ht⟩ : ∃ t, a / 2 ^ j % 2 = t := ⟨_, rfl⟩
      obtain ⟨R, hR⟩ : ∃ R, a / 2 ^ (j + 1) % b = R := ⟨_, rfl⟩
      obtain ⟨Q, hQ⟩ : ∃ Q, a / 2 ^ (j + 1) / b = Q := ⟨_, rfl⟩
      rw [ht] at HBI st t0 t1
      rw [hR] at k5 a5 st R0 R1
      rw [hQ] at k4 a4 st
      have H1 : Hid (∀ w, Calls Try.prog 118 #[.agg #[.int .u64 (whi (R)), .int .u64 (wlo (R))], .agg #[.int .u64 (whi (R)), .int .u64 (wlo (R))]] w fun e w' => e = .returned (.agg #[.int .u64 (whi (2 * R)), .int .u64 (wlo (2 * R))]) ∧ Below w.heap.size w w') := by
        intro w; have := rplus_any R R w; rw [show R + R = 2 * R by omega] at this; exact this
      have H2 : Hid (∀ w, Calls Try.prog 118 #[.agg #[.int .u64 (whi (2 * R)), .int .u64 (wlo (2 * R))], .agg #[.int .u64 0, .int .u64 t]] w fun e w' => e = .returned (.agg #[.int .u64 (whi (2 * R + t)), .int .u64 (wlo (2 * R + t))]) ∧ Below w.heap.size w w') := by
        intro w; have := rplus_any (2 * R) t w; rw [show whi t = 0 by rw [whi_of t t0 (by omega)], wlo_of t t0 (by omega)] at this; exact this
      have H3 : Hid (∀ w, Calls Try.prog 118 #[.agg #[.int .u64 (whi (Q)), .int .u64 (wlo (Q))], .agg #[.int .u64 (whi (Q)), .int .u64 (wlo (Q))]] w fun e w' => e = .returned (.agg #[.int .u64 (whi (2 * Q)), .int .u64 (wlo (2 * Q))]) ∧ Below w.heap.size w w') := by
        intro w; have := rplus_any Q Q w; rw [show Q + Q = 2 * Q by omega] at this; exact this
      have H4 := Lib.hid (fun w => rless_any (2 * R + t) b (by omega) (by omega) (by omega) (by omega) w)
      have H5 := Lib.hid (fun w => rminus_any (2 * R + t) b w)
      obtain ⟨S, hS⟩ : ∃ S, 2 * R + t = S := ⟨_, rfl⟩
      obtain ⟨R2, hR2⟩ : ∃ R2, 2 * R = R2 := ⟨_, rfl⟩
      obtain ⟨Q2, hQ2⟩ : ∃ Q2, 2 * Q = Q2 := ⟨_, rfl⟩
      have od := wlo_odd Q
      rw [hQ2] at H3 st od
      rw [hR2] at H1 H2
      rw [← hR2, hS] at H2
      rw [hR2] at H2
      rw [hS] at H4 H5 st
      have hj : IntKind.i64.wrap ((j : Int) - 1) = (j : Int) - 1 := IntWalk.i64_in _ (by omega)
      have SP := Lib.hid st
      have hev : Hid (IntKind.u64.wrap (wlo Q2 + 1) = wlo Q2 + 1) := by
        show _ = _
        rw [← od.1, IntKind.wrap_u64]; have h0 := wlo_lo (Q2 + 1); have h1 := wlo_hi (Q2 + 1); omega
      have OD := Lib.hid od
      clear st od ht hR hQ hS hR2 hQ2 hb t0 t1 R0 R1
      go_upto_region 5 with fail
      go_cut [] (fun wx => Blk wx w.heap.size #[.int .u64 (whi (a)), .int .u64 (wlo (a))] 141 ∧ Blk wx (w.heap.size + 1) #[.int .u64 (whi (b)), .int .u64 (wlo (b))] 141 ∧ Blk wx (w.heap.size + 1 + 1) #[.int .u64 0, .int .u64 0] 141 ∧ Blk wx (w.heap.size + 1 + 1 + 1) #[.int .u64 0, .int .u64 0] 141 ∧ Blk wx (w.heap.size + 1 + 1 + 1 + 1) #[.int .u64 (whi (Q)), .int .u64 (wlo (Q))] 141 ∧ Blk wx (w.heap.size + 1 + 1 + 1 + 1 + 1) #[.int .u64 (whi (S)), .int .u64 (wlo (S))] 141 ∧ Below w.heap.size w wx)
      case first =>
        go_region_law (first
          | (go_simp; go_at_call 133; (with_reducible refine (HBI.out _).mono ?_); rintro e w1 ⟨rfl, hb⟩; (try (have zk := k0.lt; (first | ((with_reducible refine Blk.keepG hb k0 (fun h => ?_) ?_); (focus ((repeat' (first | (with_reducible assumption) | ((with_reducible refine Blk.new ?_); first | rfl | (simp; done)) | (with_reducible refine Blk.later (by assumption) ?_) | (with_reducible refine Blk.alloc ?_) | (with_reducible refine Blk.drewN ?_) | (with_reducible refine Blk.drew ?_) | (with_reducible refine Blk.other ?_ (by first | omega | (simp; done) | (simp; omega))))); done)); clear k0; intro k0) | (with_reducible replace k0 := Blk.later hb (Blk.set (Blk.set k0))) | (with_reducible replace k0 := Blk.later hb (Blk.set k0))); clear a0 b0; obtain ⟨a0, b0⟩ := k0.read; have zl := k0.lt)); (try (have zk := k1.lt; (first | ((with_reducible refine Blk.keepG hb k1 (fun h => ?_) ?_); (focus ((repeat' (first | (with_reducible assumption) | ((with_reducible refine Blk.new ?_); first | rfl | (simp; done)) | (with_reducible refine Blk.later (by assumption) ?_) | (with_reducible refine Blk.alloc ?_) | (with_reducible refine Blk.drewN ?_) | (with_reducible refine Blk.drew ?_) | (with_reducible refine Blk.other ?_ (by first | omega | (simp; done) | (simp; omega))))); done)); clear k1; intro k1) | (with_reducible replace k1 := Blk.later hb (Blk.set (Blk.set k1))) | (with_reducible replace k1 := Blk.later hb (Blk.set k1))); clear a1 b1; obtain ⟨a1, b1⟩ := k1.read; have zl := k1.lt)); (try (have zk := k2.lt; (first | ((with_reducible refine Blk.keepG hb k2 (fun h => ?_) ?_); (focus ((repeat' (first | (with_reducible assumption) | ((with_reducible refine Blk.new ?_); first | rfl | (simp; done)) | (with_reducible refine Blk.later (by assumption) ?_) | (with_reducible refine Blk.alloc ?_) | (with_reducible refine Blk.drewN ?_) | (with_reducible refine Blk.drew ?_) | (with_reducible refine Blk.other ?_ (by first | omega | (simp; done) | (simp; omega))))); done)); clear k2; intro k2) | (with_reducible replace k2 := Blk.later hb (Blk.set (Blk.set k2))) | (with_reducible replace k2 := Blk.later hb (Blk.set k2))); clear a2 b2; obtain ⟨a2, b2⟩ := k2.read; have zl := k2.lt)); (try (have zk := k3.lt; (first | ((with_reducible refine Blk.keepG hb k3 (fun h => ?_) ?_); (focus ((repeat' (first | (with_reducible assumption) | ((with_reducible refine Blk.new ?_); first | rfl | (simp; done)) | (with_reducible refine Blk.later (by assumption) ?_) | (with_reducible refine Blk.alloc ?_) | (with_reducible refine Blk.drewN ?_) | (with_reducible refine Blk.drew ?_) | (with_reducible refine Blk.other ?_ (by first | omega | (simp; done) | (simp; omega))))); done)); clear k3; intro k3) | (with_reducible replace k3 := Blk.later hb (Blk.set (Blk.set k3))) | (with_reducible replace k3 := Blk.later hb (Blk.set k3))); clear a3 b3; obtain ⟨a3, b3⟩ := k3.read; have zl := k3.lt)); (try (have zk := k4.lt; (first | ((with_reducible refine Blk.keepG hb k4 (fun h => ?_) ?_); (focus ((repeat' (first | (with_reducible assumption) | ((with_reducible refine Blk.new ?_); first | rfl | (simp; done)) | (with_reducible refine Blk.later (by assumption) ?_) | (with_reducible refine Blk.alloc ?_) | (with_reducible refine Blk.drewN ?_) | (with_reducible refine Blk.drew ?_) | (with_reducible refine Blk.other ?_ (by first | omega | (simp; done) | (simp; omega))))); done)); clear k4; intro k4) | (with_reducible replace k4 := Blk.later hb (Blk.set (Blk.set k4))) | (with_reducible replace k4 := Blk.later hb (Blk.set k4))); clear a4 b4; obtain ⟨a4, b4⟩ := k4.read; have zl := k4.lt)); (try (have zk := k5.lt; (first | ((with_reducible refine Blk.keepG hb k5 (fun h => ?_) ?_); (focus ((repeat' (first | (with_reducible assumption) | ((with_reducible refine Blk.new ?_); first | rfl | (simp; done)) | (with_reducible refine Blk.later (by assumption) ?_) | (with_reducible refine Blk.alloc ?_) | (with_reducible refine Blk.drewN ?_) | (with_reducible refine Blk.drew ?_) | (with_reducible refine Blk.other ?_ (by first | omega | (simp; done) | (simp; omega))))); done)); clear k5; intro k5) | (with_reducible replace k5 := Blk.later hb (Blk.set (Blk.set k5))) | (with_reducible replace k5 := Blk.later hb (Blk.set k5))); clear a5 b5; obtain ⟨a5, b5⟩ := k5.read; have zl := k5.lt)); (first | (have zk := kn.lt; (first | ((with_reducible refine Blk.keepG hb kn (fun h => ?_) ?_); (focus ((repeat' (first | (with_reducible assumption) | ((with_reducible refine Blk.new ?_); first | rfl | (simp; done)) | (with_reducible refine Blk.later (by assumption) ?_) | (with_reducible refine Blk.alloc ?_) | (with_reducible refine Blk.drewN ?_) | (with_reducible refine Blk.drew ?_) | (with_reducible refine Blk.other ?_ (by first | omega | (simp; done) | (simp; omega))))); done)); clear kn; intro kn) | (with_reducible replace kn := Blk.later hb (Blk.set (Blk.set kn))) | (with_reducible replace kn := Blk.later hb (Blk.set kn))); clear an bn; obtain ⟨an, bn⟩ := kn.read; have zl := kn.lt) | ((first | (with_reducible have kn := Blk.later hb (Blk.new rfl)) | (with_reducible have kn := Blk.later hb (Blk.drew (Blk.new rfl))) | (with_reducible have kn := Blk.later hb (Blk.drewN (Blk.new rfl)))); (try simp only [World.size_alloc, World.size_drew, World.heap_drewN] at kn); obtain ⟨an, bn⟩ := kn.read; have zl := kn.lt) | skip))
          | (go_simp; go_at_call 118; (with_reducible refine (H1.out _).mono ?_); rintro e w1 ⟨rfl, hb⟩; (try (have zk := k0.lt; (first | ((with_reducible refine Blk.keepG hb k0 (fun h => ?_) ?_); (focus ((repeat' (first | (with_reducible assumption) | ((with_reducible refine Blk.new ?_); first | rfl | (simp; done)) | (with_reducible refine Blk.later (by assumption) ?_) | (with_reducible refine Blk.alloc ?_) | (with_reducible refine Blk.drewN ?_) | (with_reducible refine Blk.drew ?_) | (with_reducible refine Blk.other ?_ (by first | omega | (simp; done) | (simp; omega))))); done)); clear k0; intro k0) | (with_reducible replace k0 := Blk.later hb (Blk.set (Blk.set k0))) | (with_reducible replace k0 := Blk.later hb (Blk.set k0))); clear a0 b0; obtain ⟨a0, b0⟩ := k0.read; have zl := k0.lt)); (try (have zk := k1.lt; (first | ((with_reducible refine Blk.keepG hb k1 (fun h => ?_) ?_); (focus ((repeat' (first | (with_reducible assumption) | ((with_reducible refine Blk.new ?_); first | rfl | (simp; done)) | (with_reducible refine Blk.later (by assumption) ?_) | (with_reducible refine Blk.alloc ?_) | (with_reducible refine Blk.drewN ?_) | (with_reducible refine Blk.drew ?_) | (with_reducible refine Blk.other ?_ (by first | omega | (simp; done) | (simp; omega))))); done)); clear k1; intro k1) | (with_reducible replace k1 := Blk.later hb (Blk.set (Blk.set k1))) | (with_reducible replace k1 := Blk.later hb (Blk.set k1))); clear a1 b1; obtain ⟨a1, b1⟩ := k1.read; have zl := k1.lt)); (try (have zk := k2.lt; (first | ((with_reducible refine Blk.keepG hb k2 (fun h => ?_) ?_); (focus ((repeat' (first | (with_reducible assumption) | ((with_reducible refine Blk.new ?_); first | rfl | (simp; done)) | (with_reducible refine Blk.later (by assumption) ?_) | (with_reducible refine Blk.alloc ?_) | (with_reducible refine Blk.drewN ?_) | (with_reducible refine Blk.drew ?_) | (with_reducible refine Blk.other ?_ (by first | omega | (simp; done) | (simp; omega))))); done)); clear k2; intro k2) | (with_reducible replace k2 := Blk.later hb (Blk.set (Blk.set k2))) | (with_reducible replace k2 := Blk.later hb (Blk.set k2))); clear a2 b2; obtain ⟨a2, b2⟩ := k2.read; have zl := k2.lt)); (try (have zk := k3.lt; (first | ((with_reducible refine Blk.keepG hb k3 (fun h => ?_) ?_); (focus ((repeat' (first | (with_reducible assumption) | ((with_reducible refine Blk.new ?_); first | rfl | (simp; done)) | (with_reducible refine Blk.later (by assumption) ?_) | (with_reducible refine Blk.alloc ?_) | (with_reducible refine Blk.drewN ?_) | (with_reducible refine Blk.drew ?_) | (with_reducible refine Blk.other ?_ (by first | omega | (simp; done) | (simp; omega))))); done)); clear k3; intro k3) | (with_reducible replace k3 := Blk.later hb (Blk.set (Blk.set k3))) | (with_reducible replace k3 := Blk.later hb (Blk.set k3))); clear a3 b3; obtain ⟨a3, b3⟩ := k3.read; have zl := k3.lt)); (try (have zk := k4.lt; (first | ((with_reducible refine Blk.keepG hb k4 (fun h => ?_) ?_); (focus ((repeat' (first | (with_reducible assumption) | ((with_reducible refine Blk.new ?_); first | rfl | (simp; done)) | (with_reducible refine Blk.later (by assumption) ?_) | (with_reducible refine Blk.alloc ?_) | (with_reducible refine Blk.drewN ?_) | (with_reducible refine Blk.drew ?_) | (with_reducible refine Blk.other ?_ (by first | omega | (simp; done) | (simp; omega))))); done)); clear k4; intro k4) | (with_reducible replace k4 := Blk.later hb (Blk.set (Blk.set k4))) | (with_reducible replace k4 := Blk.later hb (Blk.set k4))); clear a4 b4; obtain ⟨a4, b4⟩ := k4.read; have zl := k4.lt)); (try (have zk := k5.lt; (first | ((with_reducible refine Blk.keepG hb k5 (fun h => ?_) ?_); (focus ((repeat' (first | (with_reducible assumption) | ((with_reducible refine Blk.new ?_); first | rfl | (simp; done)) | (with_reducible refine Blk.later (by assumption) ?_) | (with_reducible refine Blk.alloc ?_) | (with_reducible refine Blk.drewN ?_) | (with_reducible refine Blk.drew ?_) | (with_reducible refine Blk.other ?_ (by first | omega | (simp; done) | (simp; omega))))); done)); clear k5; intro k5) | (with_reducible replace k5 := Blk.later hb (Blk.set (Blk.set k5))) | (with_reducible replace k5 := Blk.later hb (Blk.set k5))); clear a5 b5; obtain ⟨a5, b5⟩ := k5.read; have zl := k5.lt)); (first | (have zk := kn.lt; (first | ((with_reducible refine Blk.keepG hb kn (fun h => ?_) ?_); (focus ((repeat' (first | (with_reducible assumption) | ((with_reducible refine Blk.new ?_); first | rfl | (simp; done)) | (with_reducible refine Blk.later (by assumption) ?_) | (with_reducible refine Blk.alloc ?_) | (with_reducible refine Blk.drewN ?_) | (with_reducible refine Blk.drew ?_) | (with_reducible refine Blk.other ?_ (by first | omega | (simp; done) | (simp; omega))))); done)); clear kn; intro kn) | (with_reducible replace kn := Blk.later hb (Blk.set (Blk.set kn))) | (with_reducible replace kn := Blk.later hb (Blk.set kn))); clear an bn; obtain ⟨an, bn⟩ := kn.read; have zl := kn.lt) | ((first | (with_reducible have kn := Blk.later hb (Blk.new rfl)) | (with_reducible have kn := Blk.later hb (Blk.drew (Blk.new rfl))) | (with_reducible have kn := Blk.later hb (Blk.drewN (Blk.new rfl)))); (try simp only [World.size_alloc, World.size_drew, World.heap_drewN] at kn); obtain ⟨an, bn⟩ := kn.read; have zl := kn.lt) | skip))
          | (go_simp; go_at_call 118; (with_reducible refine (H2.out _).mono ?_); rintro e w1 ⟨rfl, hb⟩; (try (have zk := k0.lt; (first | ((with_reducible refine Blk.keepG hb k0 (fun h => ?_) ?_); (focus ((repeat' (first | (with_reducible assumption) | ((with_reducible refine Blk.new ?_); first | rfl | (simp; done)) | (with_reducible refine Blk.later (by assumption) ?_) | (with_reducible refine Blk.alloc ?_) | (with_reducible refine Blk.drewN ?_) | (with_reducible refine Blk.drew ?_) | (with_reducible refine Blk.other ?_ (by first | omega | (simp; done) | (simp; omega))))); done)); clear k0; intro k0) | (with_reducible replace k0 := Blk.later hb (Blk.set (Blk.set k0))) | (with_reducible replace k0 := Blk.later hb (Blk.set k0))); clear a0 b0; obtain ⟨a0, b0⟩ := k0.read; have zl := k0.lt)); (try (have zk := k1.lt; (first | ((with_reducible refine Blk.keepG hb k1 (fun h => ?_) ?_); (focus ((repeat' (first | (with_reducible assumption) | ((with_reducible refine Blk.new ?_); first | rfl | (simp; done)) | (with_reducible refine Blk.later (by assumption) ?_) | (with_reducible refine Blk.alloc ?_) | (with_reducible refine Blk.drewN ?_) | (with_reducible refine Blk.drew ?_) | (with_reducible refine Blk.other ?_ (by first | omega | (simp; done) | (simp; omega))))); done)); clear k1; intro k1) | (with_reducible replace k1 := Blk.later hb (Blk.set (Blk.set k1))) | (with_reducible replace k1 := Blk.later hb (Blk.set k1))); clear a1 b1; obtain ⟨a1, b1⟩ := k1.read; have zl := k1.lt)); (try (have zk := k2.lt; (first | ((with_reducible refine Blk.keepG hb k2 (fun h => ?_) ?_); (focus ((repeat' (first | (with_reducible assumption) | ((with_reducible refine Blk.new ?_); first | rfl | (simp; done)) | (with_reducible refine Blk.later (by assumption) ?_) | (with_reducible refine Blk.alloc ?_) | (with_reducible refine Blk.drewN ?_) | (with_reducible refine Blk.drew ?_) | (with_reducible refine Blk.other ?_ (by first | omega | (simp; done) | (simp; omega))))); done)); clear k2; intro k2) | (with_reducible replace k2 := Blk.later hb (Blk.set (Blk.set k2))) | (with_reducible replace k2 := Blk.later hb (Blk.set k2))); clear a2 b2; obtain ⟨a2, b2⟩ := k2.read; have zl := k2.lt)); (try (have zk := k3.lt; (first | ((with_reducible refine Blk.keepG hb k3 (fun h => ?_) ?_); (focus ((repeat' (first | (with_reducible assumption) | ((with_reducible refine Blk.new ?_); first | rfl | (simp; done)) | (with_reducible refine Blk.later (by assumption) ?_) | (with_reducible refine Blk.alloc ?_) | (with_reducible refine Blk.drewN ?_) | (with_reducible refine Blk.drew ?_) | (with_reducible refine Blk.other ?_ (by first | omega | (simp; done) | (simp; omega))))); done)); clear k3; intro k3) | (with_reducible replace k3 := Blk.later hb (Blk.set (Blk.set k3))) | (with_reducible replace k3 := Blk.later hb (Blk.set k3))); clear a3 b3; obtain ⟨a3, b3⟩ := k3.read; have zl := k3.lt)); (try (have zk := k4.lt; (first | ((with_reducible refine Blk.keepG hb k4 (fun h => ?_) ?_); (focus ((repeat' (first | (with_reducible assumption) | ((with_reducible refine Blk.new ?_); first | rfl | (simp; done)) | (with_reducible refine Blk.later (by assumption) ?_) | (with_reducible refine Blk.alloc ?_) | (with_reducible refine Blk.drewN ?_) | (with_reducible refine Blk.drew ?_) | (with_reducible refine Blk.other ?_ (by first | omega | (simp; done) | (simp; omega))))); done)); clear k4; intro k4) | (with_reducible replace k4 := Blk.later hb (Blk.set (Blk.set k4))) | (with_reducible replace k4 := Blk.later hb (Blk.set k4))); clear a4 b4; obtain ⟨a4, b4⟩ := k4.read; have zl := k4.lt)); (try (have zk := k5.lt; (first | ((with_reducible refine Blk.keepG hb k5 (fun h => ?_) ?_); (focus ((repeat' (first | (with_reducible assumption) | ((with_reducible refine Blk.new ?_); first | rfl | (simp; done)) | (with_reducible refine Blk.later (by assumption) ?_) | (with_reducible refine Blk.alloc ?_) | (with_reducible refine Blk.drewN ?_) | (with_reducible refine Blk.drew ?_) | (with_reducible refine Blk.other ?_ (by first | omega | (simp; done) | (simp; omega))))); done)); clear k5; intro k5) | (with_reducible replace k5 := Blk.later hb (Blk.set (Blk.set k5))) | (with_reducible replace k5 := Blk.later hb (Blk.set k5))); clear a5 b5; obtain ⟨a5, b5⟩ := k5.read; have zl := k5.lt)); (first | (have zk := kn.lt; (first | ((with_reducible refine Blk.keepG hb kn (fun h => ?_) ?_); (focus ((repeat' (first | (with_reducible assumption) | ((with_reducible refine Blk.new ?_); first | rfl | (simp; done)) | (with_reducible refine Blk.later (by assumption) ?_) | (with_reducible refine Blk.alloc ?_) | (with_reducible refine Blk.drewN ?_) | (with_reducible refine Blk.drew ?_) | (with_reducible refine Blk.other ?_ (by first | omega | (simp; done) | (simp; omega))))); done)); clear kn; intro kn) | (with_reducible replace kn := Blk.later hb (Blk.set (Blk.set kn))) | (with_reducible replace kn := Blk.later hb (Blk.set kn))); clear an bn; obtain ⟨an, bn⟩ := kn.read; have zl := kn.lt) | ((first | (with_reducible have kn := Blk.later hb (Blk.new rfl)) | (with_reducible have kn := Blk.later hb (Blk.drew (Blk.new rfl))) | (with_reducible have kn := Blk.later hb (Blk.drewN (Blk.new rfl)))); (try simp only [World.size_alloc, World.size_drew, World.heap_drewN] at kn); obtain ⟨an, bn⟩ := kn.read; have zl := kn.lt) | skip)))
        all_goals
          go_wp2_with fail
          go_meet
          refine ⟨by (repeat' (first | (with_reducible assumption) | ((with_reducible refine Blk.new ?_); first | rfl | (simp; done)) | (with_reducible refine Blk.later (by assumption) ?_) | (with_reducible refine Blk.alloc ?_) | (with_reducible refine Blk.drewN ?_) | (with_reducible refine Blk.drew ?_) | (with_reducible refine Blk.other ?_ (by first | omega | (simp; done) | (simp; omega))))), by (repeat' (first | (with_reducible assumption) | ((with_reducible refine Blk.new ?_); first | rfl | (simp; done)) | (with_reducible refine Blk.later (by assumption) ?_) | (with_reducible refine Blk.alloc ?_) | (with_reducible refine Blk.drewN ?_) | (with_reducible refine Blk.drew ?_) | (with_reducible refine Blk.other ?_ (by first | omega | (simp; done) | (simp; omega))))), by (repeat' (first | (with_reducible assumption) | ((with_reducible refine Blk.new ?_); first | rfl | (simp; done)) | (with_reducible refine Blk.later (by assumption) ?_) | (with_reducible refine Blk.alloc ?_) | (with_reducible refine Blk.drewN ?_) | (with_reducible refine Blk.drew ?_) | (with_reducible refine Blk.other ?_ (by first | omega | (simp; done) | (simp; omega))))), by (repeat' (first | (with_reducible assumption) | ((with_reducible refine Blk.new ?_); first | rfl | (simp; done)) | (with_reducible refine Blk.later (by assumption) ?_) | (with_reducible refine Blk.alloc ?_) | (with_reducible refine Blk.drewN ?_) | (with_reducible refine Blk.drew ?_) | (with_reducible refine Blk.other ?_ (by first | omega | (simp; done) | (simp; omega))))), by (repeat' (first | (with_reducible assumption) | ((with_reducible refine Blk.new ?_); first | rfl | (simp; done)) | (with_reducible refine Blk.later (by assumption) ?_) | (with_reducible refine Blk.alloc ?_) | (with_reducible refine Blk.drewN ?_) | (with_reducible refine Blk.drew ?_) | (with_reducible refine Blk.other ?_ (by first | omega | (simp; done) | (simp; omega))))), Blk.set (Blk.set k5), by (repeat' (first | (with_reducible exact Below.refl _ _) | (with_reducible assumption) | (with_reducible refine belowThru ?_ (by assumption)) | (with_reducible refine belowAlloc ?_) | (with_reducible refine Below.setCell ?_ (by first | omega | (simp; done) | (simp; omega)) _) | (with_reducible refine Below.drew ?_) | (with_reducible refine below_drewN ?_ _)))⟩
      case rest =>
        obtain ⟨k0, k1, k2, k3, k4, k5, hB⟩ := hcut
        obtain ⟨a0, b0⟩ := k0.read; obtain ⟨a1, b1⟩ := k1.read; obtain ⟨a2, b2⟩ := k2.read; obtain ⟨a3, b3⟩ := k3.read; obtain ⟨a4, b4⟩ := k4.read; obtain ⟨a5, b5⟩ := k5.read
        have z0 := k0.lt; have z5 := k5.lt
        clear H1 H2 HBI
        by_cases hl : S < b
        · rw [decide_eq_true hl] at H4
          obtain ⟨q1, q2⟩ := SP.out.1 hl
          clear hl SP
          go_wp2_with (first
            | (go_at_call 118; (with_reducible refine (H3.out _).mono ?_); rintro e w1 ⟨rfl, hb⟩; (try (have zk := k0.lt; (first | ((with_reducible refine Blk.keepG hb k0 (fun h => ?_) ?_); (focus ((repeat' (first | (with_reducible assumption) | ((with_reducible refine Blk.new ?_); first | rfl | (simp; done)) | (with_reducible refine Blk.later (by assumption) ?_) | (with_reducible refine Blk.alloc ?_) | (with_reducible refine Blk.drewN ?_) | (with_reducible refine Blk.drew ?_) | (with_reducible refine Blk.other ?_ (by first | omega | (simp; done) | (simp; omega))))); done)); clear k0; intro k0) | (with_reducible replace k0 := Blk.later hb (Blk.set (Blk.set k0))) | (with_reducible replace k0 := Blk.later hb (Blk.set k0))); clear a0 b0; obtain ⟨a0, b0⟩ := k0.read; have zl := k0.lt)); (try (have zk := k1.lt; (first | ((with_reducible refine Blk.keepG hb k1 (fun h => ?_) ?_); (focus ((repeat' (first | (with_reducible assumption) | ((with_reducible refine Blk.new ?_); first | rfl | (simp; done)) | (with_reducible refine Blk.later (by assumption) ?_) | (with_reducible refine Blk.alloc ?_) | (with_reducible refine Blk.drewN ?_) | (with_reducible refine Blk.drew ?_) | (with_reducible refine Blk.other ?_ (by first | omega | (simp; done) | (simp; omega))))); done)); clear k1; intro k1) | (with_reducible replace k1 := Blk.later hb (Blk.set (Blk.set k1))) | (with_reducible replace k1 := Blk.later hb (Blk.set k1))); clear a1 b1; obtain ⟨a1, b1⟩ := k1.read; have zl := k1.lt)); (try (have zk := k2.lt; (first | ((with_reducible refine Blk.keepG hb k2 (fun h => ?_) ?_); (focus ((repeat' (first | (with_reducible assumption) | ((with_reducible refine Blk.new ?_); first | rfl | (simp; done)) | (with_reducible refine Blk.later (by assumption) ?_) | (with_reducible refine Blk.alloc ?_) | (with_reducible refine Blk.drewN ?_) | (with_reducible refine Blk.drew ?_) | (with_reducible refine Blk.other ?_ (by first | omega | (simp; done) | (simp; omega))))); done)); clear k2; intro k2) | (with_reducible replace k2 := Blk.later hb (Blk.set (Blk.set k2))) | (with_reducible replace k2 := Blk.later hb (Blk.set k2))); clear a2 b2; obtain ⟨a2, b2⟩ := k2.read; have zl := k2.lt)); (try (have zk := k3.lt; (first | ((with_reducible refine Blk.keepG hb k3 (fun h => ?_) ?_); (focus ((repeat' (first | (with_reducible assumption) | ((with_reducible refine Blk.new ?_); first | rfl | (simp; done)) | (with_reducible refine Blk.later (by assumption) ?_) | (with_reducible refine Blk.alloc ?_) | (with_reducible refine Blk.drewN ?_) | (with_reducible refine Blk.drew ?_) | (with_reducible refine Blk.other ?_ (by first | omega | (simp; done) | (simp; omega))))); done)); clear k3; intro k3) | (with_reducible replace k3 := Blk.later hb (Blk.set (Blk.set k3))) | (with_reducible replace k3 := Blk.later hb (Blk.set k3))); clear a3 b3; obtain ⟨a3, b3⟩ := k3.read; have zl := k3.lt)); (try (have zk := k4.lt; (first | ((with_reducible refine Blk.keepG hb k4 (fun h => ?_) ?_); (focus ((repeat' (first | (with_reducible assumption) | ((with_reducible refine Blk.new ?_); first | rfl | (simp; done)) | (with_reducible refine Blk.later (by assumption) ?_) | (with_reducible refine Blk.alloc ?_) | (with_reducible refine Blk.drewN ?_) | (with_reducible refine Blk.drew ?_) | (with_reducible refine Blk.other ?_ (by first | omega | (simp; done) | (simp; omega))))); done)); clear k4; intro k4) | (with_reducible replace k4 := Blk.later hb (Blk.set (Blk.set k4))) | (with_reducible replace k4 := Blk.later hb (Blk.set k4))); clear a4 b4; obtain ⟨a4, b4⟩ := k4.read; have zl := k4.lt)); (try (have zk := k5.lt; (first | ((with_reducible refine Blk.keepG hb k5 (fun h => ?_) ?_); (focus ((repeat' (first | (with_reducible assumption) | ((with_reducible refine Blk.new ?_); first | rfl | (simp; done)) | (with_reducible refine Blk.later (by assumption) ?_) | (with_reducible refine Blk.alloc ?_) | (with_reducible refine Blk.drewN ?_) | (with_reducible refine Blk.drew ?_) | (with_reducible refine Blk.other ?_ (by first | omega | (simp; done) | (simp; omega))))); done)); clear k5; intro k5) | (with_reducible replace k5 := Blk.later hb (Blk.set (Blk.set k5))) | (with_reducible replace k5 := Blk.later hb (Blk.set k5))); clear a5 b5; obtain ⟨a5, b5⟩ := k5.read; have zl := k5.lt)); (first | (have zk := kn.lt; (first | ((with_reducible refine Blk.keepG hb kn (fun h => ?_) ?_); (focus ((repeat' (first | (with_reducible assumption) | ((with_reducible refine Blk.new ?_); first | rfl | (simp; done)) | (with_reducible refine Blk.later (by assumption) ?_) | (with_reducible refine Blk.alloc ?_) | (with_reducible refine Blk.drewN ?_) | (with_reducible refine Blk.drew ?_) | (with_reducible refine Blk.other ?_ (by first | omega | (simp; done) | (simp; omega))))); done)); clear kn; intro kn) | (with_reducible replace kn := Blk.later hb (Blk.set (Blk.set kn))) | (with_reducible replace kn := Blk.later hb (Blk.set kn))); clear an bn; obtain ⟨an, bn⟩ := kn.read; have zl := kn.lt) | ((first | (with_reducible have kn := Blk.later hb (Blk.new rfl)) | (with_reducible have kn := Blk.later hb (Blk.drew (Blk.new rfl))) | (with_reducible have kn := Blk.later hb (Blk.drewN (Blk.new rfl)))); (try simp only [World.size_alloc, World.size_drew, World.heap_drewN] at kn); obtain ⟨an, bn⟩ := kn.read; have zl := kn.lt) | skip))
            | (go_at_call 119; (with_reducible refine (H4.out _).mono ?_); rintro e w1 ⟨rfl, hb⟩; (try (have zk := k0.lt; (first | ((with_reducible refine Blk.keepG hb k0 (fun h => ?_) ?_); (focus ((repeat' (first | (with_reducible assumption) | ((with_reducible refine Blk.new ?_); first | rfl | (simp; done)) | (with_reducible refine Blk.later (by assumption) ?_) | (with_reducible refine Blk.alloc ?_) | (with_reducible refine Blk.drewN ?_) | (with_reducible refine Blk.drew ?_) | (with_reducible refine Blk.other ?_ (by first | omega | (simp; done) | (simp; omega))))); done)); clear k0; intro k0) | (with_reducible replace k0 := Blk.later hb (Blk.set (Blk.set k0))) | (with_reducible replace k0 := Blk.later hb (Blk.set k0))); clear a0 b0; obtain ⟨a0, b0⟩ := k0.read; have zl := k0.lt)); (try (have zk := k1.lt; (first | ((with_reducible refine Blk.keepG hb k1 (fun h => ?_) ?_); (focus ((repeat' (first | (with_reducible assumption) | ((with_reducible refine Blk.new ?_); first | rfl | (simp; done)) | (with_reducible refine Blk.later (by assumption) ?_) | (with_reducible refine Blk.alloc ?_) | (with_reducible refine Blk.drewN ?_) | (with_reducible refine Blk.drew ?_) | (with_reducible refine Blk.other ?_ (by first | omega | (simp; done) | (simp; omega))))); done)); clear k1; intro k1) | (with_reducible replace k1 := Blk.later hb (Blk.set (Blk.set k1))) | (with_reducible replace k1 := Blk.later hb (Blk.set k1))); clear a1 b1; obtain ⟨a1, b1⟩ := k1.read; have zl := k1.lt)); (try (have zk := k2.lt; (first | ((with_reducible refine Blk.keepG hb k2 (fun h => ?_) ?_); (focus ((repeat' (first | (with_reducible assumption) | ((with_reducible refine Blk.new ?_); first | rfl | (simp; done)) | (with_reducible refine Blk.later (by assumption) ?_) | (with_reducible refine Blk.alloc ?_) | (with_reducible refine Blk.drewN ?_) | (with_reducible refine Blk.drew ?_) | (with_reducible refine Blk.other ?_ (by first | omega | (simp; done) | (simp; omega))))); done)); clear k2; intro k2) | (with_reducible replace k2 := Blk.later hb (Blk.set (Blk.set k2))) | (with_reducible replace k2 := Blk.later hb (Blk.set k2))); clear a2 b2; obtain ⟨a2, b2⟩ := k2.read; have zl := k2.lt)); (try (have zk := k3.lt; (first | ((with_reducible refine Blk.keepG hb k3 (fun h => ?_) ?_); (focus ((repeat' (first | (with_reducible assumption) | ((with_reducible refine Blk.new ?_); first | rfl | (simp; done)) | (with_reducible refine Blk.later (by assumption) ?_) | (with_reducible refine Blk.alloc ?_) | (with_reducible refine Blk.drewN ?_) | (with_reducible refine Blk.drew ?_) | (with_reducible refine Blk.other ?_ (by first | omega | (simp; done) | (simp; omega))))); done)); clear k3; intro k3) | (with_reducible replace k3 := Blk.later hb (Blk.set (Blk.set k3))) | (with_reducible replace k3 := Blk.later hb (Blk.set k3))); clear a3 b3; obtain ⟨a3, b3⟩ := k3.read; have zl := k3.lt)); (try (have zk := k4.lt; (first | ((with_reducible refine Blk.keepG hb k4 (fun h => ?_) ?_); (focus ((repeat' (first | (with_reducible assumption) | ((with_reducible refine Blk.new ?_); first | rfl | (simp; done)) | (with_reducible refine Blk.later (by assumption) ?_) | (with_reducible refine Blk.alloc ?_) | (with_reducible refine Blk.drewN ?_) | (with_reducible refine Blk.drew ?_) | (with_reducible refine Blk.other ?_ (by first | omega | (simp; done) | (simp; omega))))); done)); clear k4; intro k4) | (with_reducible replace k4 := Blk.later hb (Blk.set (Blk.set k4))) | (with_reducible replace k4 := Blk.later hb (Blk.set k4))); clear a4 b4; obtain ⟨a4, b4⟩ := k4.read; have zl := k4.lt)); (try (have zk := k5.lt; (first | ((with_reducible refine Blk.keepG hb k5 (fun h => ?_) ?_); (focus ((repeat' (first | (with_reducible assumption) | ((with_reducible refine Blk.new ?_); first | rfl | (simp; done)) | (with_reducible refine Blk.later (by assumption) ?_) | (with_reducible refine Blk.alloc ?_) | (with_reducible refine Blk.drewN ?_) | (with_reducible refine Blk.drew ?_) | (with_reducible refine Blk.other ?_ (by first | omega | (simp; done) | (simp; omega))))); done)); clear k5; intro k5) | (with_reducible replace k5 := Blk.later hb (Blk.set (Blk.set k5))) | (with_reducible replace k5 := Blk.later hb (Blk.set k5))); clear a5 b5; obtain ⟨a5, b5⟩ := k5.read; have zl := k5.lt)); (first | (have zk := kn.lt; (first | ((with_reducible refine Blk.keepG hb kn (fun h => ?_) ?_); (focus ((repeat' (first | (with_reducible assumption) | ((with_reducible refine Blk.new ?_); first | rfl | (simp; done)) | (with_reducible refine Blk.later (by assumption) ?_) | (with_reducible refine Blk.alloc ?_) | (with_reducible refine Blk.drewN ?_) | (with_reducible refine Blk.drew ?_) | (with_reducible refine Blk.other ?_ (by first | omega | (simp; done) | (simp; omega))))); done)); clear kn; intro kn) | (with_reducible replace kn := Blk.later hb (Blk.set (Blk.set kn))) | (with_reducible replace kn := Blk.later hb (Blk.set kn))); clear an bn; obtain ⟨an, bn⟩ := kn.read; have zl := kn.lt) | ((first | (with_reducible have kn := Blk.later hb (Blk.new rfl)) | (with_reducible have kn := Blk.later hb (Blk.drew (Blk.new rfl))) | (with_reducible have kn := Blk.later hb (Blk.drewN (Blk.new rfl)))); (try simp only [World.size_alloc, World.size_drew, World.heap_drewN] at kn); obtain ⟨an, bn⟩ := kn.read; have zl := kn.lt) | skip)))
          go_roundw
          case rel =>
            refine ⟨(j : Int) - 1, by omega, by omega, rfl, by (repeat' (first | (with_reducible assumption) | ((with_reducible refine Blk.new ?_); first | rfl | (simp; done)) | (with_reducible refine Blk.later (by assumption) ?_) | (with_reducible refine Blk.alloc ?_) | (with_reducible refine Blk.drewN ?_) | (with_reducible refine Blk.drew ?_) | (with_reducible refine Blk.other ?_ (by first | omega | (simp; done) | (simp; omega))))), by (repeat' (first | (with_reducible assumption) | ((with_reducible refine Blk.new ?_); first | rfl | (simp; done)) | (with_reducible refine Blk.later (by assumption) ?_) | (with_reducible refine Blk.alloc ?_) | (with_reducible refine Blk.drewN ?_) | (with_reducible refine Blk.drew ?_) | (with_reducible refine Blk.other ?_ (by first | omega | (simp; done) | (simp; omega))))), by (repeat' (first | (with_reducible assumption) | ((with_reducible refine Blk.new ?_); first | rfl | (simp; done)) | (with_reducible refine Blk.later (by assumption) ?_) | (with_reducible refine Blk.alloc ?_) | (with_reducible refine Blk.drewN ?_) | (with_reducible refine Blk.drew ?_) | (with_reducible refine Blk.other ?_ (by first | omega | (simp; done) | (simp; omega))))), by (repeat' (first | (with_reducible assumption) | ((with_reducible refine Blk.new ?_); first | rfl | (simp; done)) | (with_reducible refine Blk.later (by assumption) ?_) | (with_reducible refine Blk.alloc ?_) | (with_reducible refine Blk.drewN ?_) | (with_reducible refine Blk.drew ?_) | (with_reducible refine Blk.other ?_ (by first | omega | (simp; done) | (simp; omega))))), ?_, ?_, by (repeat' (first | (with_reducible exact Below.refl _ _) | (with_reducible assumption) | (with_reducible refine belowThru ?_ (by assumption)) | (with_reducible refine belowAlloc ?_) | (with_reducible refine Below.setCell ?_ (by first | omega | (simp; done) | (simp; omega)) _) | (with_reducible refine Below.drew ?_) | (with_reducible refine below_drewN ?_ _)))⟩
            · rw [show ((j : Int) - 1 + 1).toNat = j by omega, q1]; exact k4
            · rw [show ((j : Int) - 1 + 1).toNat = j by omega, q2]; (repeat' (first | (with_reducible assumption) | ((with_reducible refine Blk.new ?_); first | rfl | (simp; done)) | (with_reducible refine Blk.later (by assumption) ?_) | (with_reducible refine Blk.alloc ?_) | (with_reducible refine Blk.drewN ?_) | (with_reducible refine Blk.drew ?_) | (with_reducible refine Blk.other ?_ (by first | omega | (simp; done) | (simp; omega)))))
          case measure => simp [intOf] <;> omega
        · rw [decide_eq_false hl] at H4
          obtain ⟨q1, q2⟩ := SP.out.2 hl
          clear hl SP
          have ev := hev.out
          go_wp2_with (first
            | (go_at_call 118; (with_reducible refine (H3.out _).mono ?_); rintro e w1 ⟨rfl, hb⟩; (try (have zk := k0.lt; (first | ((with_reducible refine Blk.keepG hb k0 (fun h => ?_) ?_); (focus ((repeat' (first | (with_reducible assumption) | ((with_reducible refine Blk.new ?_); first | rfl | (simp; done)) | (with_reducible refine Blk.later (by assumption) ?_) | (with_reducible refine Blk.alloc ?_) | (with_reducible refine Blk.drewN ?_) | (with_reducible refine Blk.drew ?_) | (with_reducible refine Blk.other ?_ (by first | omega | (simp; done) | (simp; omega))))); done)); clear k0; intro k0) | (with_reducible replace k0 := Blk.later hb (Blk.set (Blk.set k0))) | (with_reducible replace k0 := Blk.later hb (Blk.set k0))); clear a0 b0; obtain ⟨a0, b0⟩ := k0.read; have zl := k0.lt)); (try (have zk := k1.lt; (first | ((with_reducible refine Blk.keepG hb k1 (fun h => ?_) ?_); (focus ((repeat' (first | (with_reducible assumption) | ((with_reducible refine Blk.new ?_); first | rfl | (simp; done)) | (with_reducible refine Blk.later (by assumption) ?_) | (with_reducible refine Blk.alloc ?_) | (with_reducible refine Blk.drewN ?_) | (with_reducible refine Blk.drew ?_) | (with_reducible refine Blk.other ?_ (by first | omega | (simp; done) | (simp; omega))))); done)); clear k1; intro k1) | (with_reducible replace k1 := Blk.later hb (Blk.set (Blk.set k1))) | (with_reducible replace k1 := Blk.later hb (Blk.set k1))); clear a1 b1; obtain ⟨a1, b1⟩ := k1.read; have zl := k1.lt)); (try (have zk := k2.lt; (first | ((with_reducible refine Blk.keepG hb k2 (fun h => ?_) ?_); (focus ((repeat' (first | (with_reducible assumption) | ((with_reducible refine Blk.new ?_); first | rfl | (simp; done)) | (with_reducible refine Blk.later (by assumption) ?_) | (with_reducible refine Blk.alloc ?_) | (with_reducible refine Blk.drewN ?_) | (with_reducible refine Blk.drew ?_) | (with_reducible refine Blk.other ?_ (by first | omega | (simp; done) | (simp; omega))))); done)); clear k2; intro k2) | (with_reducible replace k2 := Blk.later hb (Blk.set (Blk.set k2))) | (with_reducible replace k2 := Blk.later hb (Blk.set k2))); clear a2 b2; obtain ⟨a2, b2⟩ := k2.read; have zl := k2.lt)); (try (have zk := k3.lt; (first | ((with_reducible refine Blk.keepG hb k3 (fun h => ?_) ?_); (focus ((repeat' (first | (with_reducible assumption) | ((with_reducible refine Blk.new ?_); first | rfl | (simp; done)) | (with_reducible refine Blk.later (by assumption) ?_) | (with_reducible refine Blk.alloc ?_) | (with_reducible refine Blk.drewN ?_) | (with_reducible refine Blk.drew ?_) | (with_reducible refine Blk.other ?_ (by first | omega | (simp; done) | (simp; omega))))); done)); clear k3; intro k3) | (with_reducible replace k3 := Blk.later hb (Blk.set (Blk.set k3))) | (with_reducible replace k3 := Blk.later hb (Blk.set k3))); clear a3 b3; obtain ⟨a3, b3⟩ := k3.read; have zl := k3.lt)); (try (have zk := k4.lt; (first | ((with_reducible refine Blk.keepG hb k4 (fun h => ?_) ?_); (focus ((repeat' (first | (with_reducible assumption) | ((with_reducible refine Blk.new ?_); first | rfl | (simp; done)) | (with_reducible refine Blk.later (by assumption) ?_) | (with_reducible refine Blk.alloc ?_) | (with_reducible refine Blk.drewN ?_) | (with_reducible refine Blk.drew ?_) | (with_reducible refine Blk.other ?_ (by first | omega | (simp; done) | (simp; omega))))); done)); clear k4; intro k4) | (with_reducible replace k4 := Blk.later hb (Blk.set (Blk.set k4))) | (with_reducible replace k4 := Blk.later hb (Blk.set k4))); clear a4 b4; obtain ⟨a4, b4⟩ := k4.read; have zl := k4.lt)); (try (have zk := k5.lt; (first | ((with_reducible refine Blk.keepG hb k5 (fun h => ?_) ?_); (focus ((repeat' (first | (with_reducible assumption) | ((with_reducible refine Blk.new ?_); first | rfl | (simp; done)) | (with_reducible refine Blk.later (by assumption) ?_) | (with_reducible refine Blk.alloc ?_) | (with_reducible refine Blk.drewN ?_) | (with_reducible refine Blk.drew ?_) | (with_reducible refine Blk.other ?_ (by first | omega | (simp; done) | (simp; omega))))); done)); clear k5; intro k5) | (with_reducible replace k5 := Blk.later hb (Blk.set (Blk.set k5))) | (with_reducible replace k5 := Blk.later hb (Blk.set k5))); clear a5 b5; obtain ⟨a5, b5⟩ := k5.read; have zl := k5.lt)); (first | (have zk := kn.lt; (first | ((with_reducible refine Blk.keepG hb kn (fun h => ?_) ?_); (focus ((repeat' (first | (with_reducible assumption) | ((with_reducible refine Blk.new ?_); first | rfl | (simp; done)) | (with_reducible refine Blk.later (by assumption) ?_) | (with_reducible refine Blk.alloc ?_) | (with_reducible refine Blk.drewN ?_) | (with_reducible refine Blk.drew ?_) | (with_reducible refine Blk.other ?_ (by first | omega | (simp; done) | (simp; omega))))); done)); clear kn; intro kn) | (with_reducible replace kn := Blk.later hb (Blk.set (Blk.set kn))) | (with_reducible replace kn := Blk.later hb (Blk.set kn))); clear an bn; obtain ⟨an, bn⟩ := kn.read; have zl := kn.lt) | ((first | (with_reducible have kn := Blk.later hb (Blk.new rfl)) | (with_reducible have kn := Blk.later hb (Blk.drew (Blk.new rfl))) | (with_reducible have kn := Blk.later hb (Blk.drewN (Blk.new rfl)))); (try simp only [World.size_alloc, World.size_drew, World.heap_drewN] at kn); obtain ⟨an, bn⟩ := kn.read; have zl := kn.lt) | skip))
            | (go_at_call 119; (with_reducible refine (H4.out _).mono ?_); rintro e w1 ⟨rfl, hb⟩; (try (have zk := k0.lt; (first | ((with_reducible refine Blk.keepG hb k0 (fun h => ?_) ?_); (focus ((repeat' (first | (with_reducible assumption) | ((with_reducible refine Blk.new ?_); first | rfl | (simp; done)) | (with_reducible refine Blk.later (by assumption) ?_) | (with_reducible refine Blk.alloc ?_) | (with_reducible refine Blk.drewN ?_) | (with_reducible refine Blk.drew ?_) | (with_reducible refine Blk.other ?_ (by first | omega | (simp; done) | (simp; omega))))); done)); clear k0; intro k0) | (with_reducible replace k0 := Blk.later hb (Blk.set (Blk.set k0))) | (with_reducible replace k0 := Blk.later hb (Blk.set k0))); clear a0 b0; obtain ⟨a0, b0⟩ := k0.read; have zl := k0.lt)); (try (have zk := k1.lt; (first | ((with_reducible refine Blk.keepG hb k1 (fun h => ?_) ?_); (focus ((repeat' (first | (with_reducible assumption) | ((with_reducible refine Blk.new ?_); first | rfl | (simp; done)) | (with_reducible refine Blk.later (by assumption) ?_) | (with_reducible refine Blk.alloc ?_) | (with_reducible refine Blk.drewN ?_) | (with_reducible refine Blk.drew ?_) | (with_reducible refine Blk.other ?_ (by first | omega | (simp; done) | (simp; omega))))); done)); clear k1; intro k1) | (with_reducible replace k1 := Blk.later hb (Blk.set (Blk.set k1))) | (with_reducible replace k1 := Blk.later hb (Blk.set k1))); clear a1 b1; obtain ⟨a1, b1⟩ := k1.read; have zl := k1.lt)); (try (have zk := k2.lt; (first | ((with_reducible refine Blk.keepG hb k2 (fun h => ?_) ?_); (focus ((repeat' (first | (with_reducible assumption) | ((with_reducible refine Blk.new ?_); first | rfl | (simp; done)) | (with_reducible refine Blk.later (by assumption) ?_) | (with_reducible refine Blk.alloc ?_) | (with_reducible refine Blk.drewN ?_) | (with_reducible refine Blk.drew ?_) | (with_reducible refine Blk.other ?_ (by first | omega | (simp; done) | (simp; omega))))); done)); clear k2; intro k2) | (with_reducible replace k2 := Blk.later hb (Blk.set (Blk.set k2))) | (with_reducible replace k2 := Blk.later hb (Blk.set k2))); clear a2 b2; obtain ⟨a2, b2⟩ := k2.read; have zl := k2.lt)); (try (have zk := k3.lt; (first | ((with_reducible refine Blk.keepG hb k3 (fun h => ?_) ?_); (focus ((repeat' (first | (with_reducible assumption) | ((with_reducible refine Blk.new ?_); first | rfl | (simp; done)) | (with_reducible refine Blk.later (by assumption) ?_) | (with_reducible refine Blk.alloc ?_) | (with_reducible refine Blk.drewN ?_) | (with_reducible refine Blk.drew ?_) | (with_reducible refine Blk.other ?_ (by first | omega | (simp; done) | (simp; omega))))); done)); clear k3; intro k3) | (with_reducible replace k3 := Blk.later hb (Blk.set (Blk.set k3))) | (with_reducible replace k3 := Blk.later hb (Blk.set k3))); clear a3 b3; obtain ⟨a3, b3⟩ := k3.read; have zl := k3.lt)); (try (have zk := k4.lt; (first | ((with_reducible refine Blk.keepG hb k4 (fun h => ?_) ?_); (focus ((repeat' (first | (with_reducible assumption) | ((with_reducible refine Blk.new ?_); first | rfl | (simp; done)) | (with_reducible refine Blk.later (by assumption) ?_) | (with_reducible refine Blk.alloc ?_) | (with_reducible refine Blk.drewN ?_) | (with_reducible refine Blk.drew ?_) | (with_reducible refine Blk.other ?_ (by first | omega | (simp; done) | (simp; omega))))); done)); clear k4; intro k4) | (with_reducible replace k4 := Blk.later hb (Blk.set (Blk.set k4))) | (with_reducible replace k4 := Blk.later hb (Blk.set k4))); clear a4 b4; obtain ⟨a4, b4⟩ := k4.read; have zl := k4.lt)); (try (have zk := k5.lt; (first | ((with_reducible refine Blk.keepG hb k5 (fun h => ?_) ?_); (focus ((repeat' (first | (with_reducible assumption) | ((with_reducible refine Blk.new ?_); first | rfl | (simp; done)) | (with_reducible refine Blk.later (by assumption) ?_) | (with_reducible refine Blk.alloc ?_) | (with_reducible refine Blk.drewN ?_) | (with_reducible refine Blk.drew ?_) | (with_reducible refine Blk.other ?_ (by first | omega | (simp; done) | (simp; omega))))); done)); clear k5; intro k5) | (with_reducible replace k5 := Blk.later hb (Blk.set (Blk.set k5))) | (with_reducible replace k5 := Blk.later hb (Blk.set k5))); clear a5 b5; obtain ⟨a5, b5⟩ := k5.read; have zl := k5.lt)); (first | (have zk := kn.lt; (first | ((with_reducible refine Blk.keepG hb kn (fun h => ?_) ?_); (focus ((repeat' (first | (with_reducible assumption) | ((with_reducible refine Blk.new ?_); first | rfl | (simp; done)) | (with_reducible refine Blk.later (by assumption) ?_) | (with_reducible refine Blk.alloc ?_) | (with_reducible refine Blk.drewN ?_) | (with_reducible refine Blk.drew ?_) | (with_reducible refine Blk.other ?_ (by first | omega | (simp; done) | (simp; omega))))); done)); clear kn; intro kn) | (with_reducible replace kn := Blk.later hb (Blk.set (Blk.set kn))) | (with_reducible replace kn := Blk.later hb (Blk.set kn))); clear an bn; obtain ⟨an, bn⟩ := kn.read; have zl := kn.lt) | ((first | (with_reducible have kn := Blk.later hb (Blk.new rfl)) | (with_reducible have kn := Blk.later hb (Blk.drew (Blk.new rfl))) | (with_reducible have kn := Blk.later hb (Blk.drewN (Blk.new rfl)))); (try simp only [World.size_alloc, World.size_drew, World.heap_drewN] at kn); obtain ⟨an, bn⟩ := kn.read; have zl := kn.lt) | skip))
            | (go_at_call 120; (with_reducible refine (H5.out _).mono ?_); rintro e w1 ⟨rfl, hb⟩; (try (have zk := k0.lt; (first | ((with_reducible refine Blk.keepG hb k0 (fun h => ?_) ?_); (focus ((repeat' (first | (with_reducible assumption) | ((with_reducible refine Blk.new ?_); first | rfl | (simp; done)) | (with_reducible refine Blk.later (by assumption) ?_) | (with_reducible refine Blk.alloc ?_) | (with_reducible refine Blk.drewN ?_) | (with_reducible refine Blk.drew ?_) | (with_reducible refine Blk.other ?_ (by first | omega | (simp; done) | (simp; omega))))); done)); clear k0; intro k0) | (with_reducible replace k0 := Blk.later hb (Blk.set (Blk.set k0))) | (with_reducible replace k0 := Blk.later hb (Blk.set k0))); clear a0 b0; obtain ⟨a0, b0⟩ := k0.read; have zl := k0.lt)); (try (have zk := k1.lt; (first | ((with_reducible refine Blk.keepG hb k1 (fun h => ?_) ?_); (focus ((repeat' (first | (with_reducible assumption) | ((with_reducible refine Blk.new ?_); first | rfl | (simp; done)) | (with_reducible refine Blk.later (by assumption) ?_) | (with_reducible refine Blk.alloc ?_) | (with_reducible refine Blk.drewN ?_) | (with_reducible refine Blk.drew ?_) | (with_reducible refine Blk.other ?_ (by first | omega | (simp; done) | (simp; omega))))); done)); clear k1; intro k1) | (with_reducible replace k1 := Blk.later hb (Blk.set (Blk.set k1))) | (with_reducible replace k1 := Blk.later hb (Blk.set k1))); clear a1 b1; obtain ⟨a1, b1⟩ := k1.read; have zl := k1.lt)); (try (have zk := k2.lt; (first | ((with_reducible refine Blk.keepG hb k2 (fun h => ?_) ?_); (focus ((repeat' (first | (with_reducible assumption) | ((with_reducible refine Blk.new ?_); first | rfl | (simp; done)) | (with_reducible refine Blk.later (by assumption) ?_) | (with_reducible refine Blk.alloc ?_) | (with_reducible refine Blk.drewN ?_) | (with_reducible refine Blk.drew ?_) | (with_reducible refine Blk.other ?_ (by first | omega | (simp; done) | (simp; omega))))); done)); clear k2; intro k2) | (with_reducible replace k2 := Blk.later hb (Blk.set (Blk.set k2))) | (with_reducible replace k2 := Blk.later hb (Blk.set k2))); clear a2 b2; obtain ⟨a2, b2⟩ := k2.read; have zl := k2.lt)); (try (have zk := k3.lt; (first | ((with_reducible refine Blk.keepG hb k3 (fun h => ?_) ?_); (focus ((repeat' (first | (with_reducible assumption) | ((with_reducible refine Blk.new ?_); first | rfl | (simp; done)) | (with_reducible refine Blk.later (by assumption) ?_) | (with_reducible refine Blk.alloc ?_) | (with_reducible refine Blk.drewN ?_) | (with_reducible refine Blk.drew ?_) | (with_reducible refine Blk.other ?_ (by first | omega | (simp; done) | (simp; omega))))); done)); clear k3; intro k3) | (with_reducible replace k3 := Blk.later hb (Blk.set (Blk.set k3))) | (with_reducible replace k3 := Blk.later hb (Blk.set k3))); clear a3 b3; obtain ⟨a3, b3⟩ := k3.read; have zl := k3.lt)); (try (have zk := k4.lt; (first | ((with_reducible refine Blk.keepG hb k4 (fun h => ?_) ?_); (focus ((repeat' (first | (with_reducible assumption) | ((with_reducible refine Blk.new ?_); first | rfl | (simp; done)) | (with_reducible refine Blk.later (by assumption) ?_) | (with_reducible refine Blk.alloc ?_) | (with_reducible refine Blk.drewN ?_) | (with_reducible refine Blk.drew ?_) | (with_reducible refine Blk.other ?_ (by first | omega | (simp; done) | (simp; omega))))); done)); clear k4; intro k4) | (with_reducible replace k4 := Blk.later hb (Blk.set (Blk.set k4))) | (with_reducible replace k4 := Blk.later hb (Blk.set k4))); clear a4 b4; obtain ⟨a4, b4⟩ := k4.read; have zl := k4.lt)); (try (have zk := k5.lt; (first | ((with_reducible refine Blk.keepG hb k5 (fun h => ?_) ?_); (focus ((repeat' (first | (with_reducible assumption) | ((with_reducible refine Blk.new ?_); first | rfl | (simp; done)) | (with_reducible refine Blk.later (by assumption) ?_) | (with_reducible refine Blk.alloc ?_) | (with_reducible refine Blk.drewN ?_) | (with_reducible refine Blk.drew ?_) | (with_reducible refine Blk.other ?_ (by first | omega | (simp; done) | (simp; omega))))); done)); clear k5; intro k5) | (with_reducible replace k5 := Blk.later hb (Blk.set (Blk.set k5))) | (with_reducible replace k5 := Blk.later hb (Blk.set k5))); clear a5 b5; obtain ⟨a5, b5⟩ := k5.read; have zl := k5.lt)); (first | (have zk := kn.lt; (first | ((with_reducible refine Blk.keepG hb kn (fun h => ?_) ?_); (focus ((repeat' (first | (with_reducible assumption) | ((with_reducible refine Blk.new ?_); first | rfl | (simp; done)) | (with_reducible refine Blk.later (by assumption) ?_) | (with_reducible refine Blk.alloc ?_) | (with_reducible refine Blk.drewN ?_) | (with_reducible refine Blk.drew ?_) | (with_reducible refine Blk.other ?_ (by first | omega | (simp; done) | (simp; omega))))); done)); clear kn; intro kn) | (with_reducible replace kn := Blk.later hb (Blk.set (Blk.set kn))) | (with_reducible replace kn := Blk.later hb (Blk.set kn))); clear an bn; obtain ⟨an, bn⟩ := kn.read; have zl := kn.lt) | ((first | (with_reducible have kn := Blk.later hb (Blk.new rfl)) | (with_reducible have kn := Blk.later hb (Blk.drew (Blk.new rfl))) | (with_reducible have kn := Blk.later hb (Blk.drewN (Blk.new rfl)))); (try simp only [World.size_alloc, World.size_drew, World.heap_drewN] at kn); obtain ⟨an, bn⟩ := kn.read; have zl := kn.lt) | skip)))
          go_roundw
          case rel =>
            refine ⟨(j : Int) - 1, by omega, by omega, rfl, by (repeat' (first | (with_reducible assumption) | ((with_reducible refine Blk.new ?_); first | rfl | (simp; done)) | (with_reducible refine Blk.later (by assumption) ?_) | (with_reducible refine Blk.alloc ?_) | (with_reducible refine Blk.drewN ?_) | (with_reducible refine Blk.drew ?_) | (with_reducible refine Blk.other ?_ (by first | omega | (simp; done) | (simp; omega))))), by (repeat' (first | (with_reducible assumption) | ((with_reducible refine Blk.new ?_); first | rfl | (simp; done)) | (with_reducible refine Blk.later (by assumption) ?_) | (with_reducible refine Blk.alloc ?_) | (with_reducible refine Blk.drewN ?_) | (with_reducible refine Blk.drew ?_) | (with_reducible refine Blk.other ?_ (by first | omega | (simp; done) | (simp; omega))))), by (repeat' (first | (with_reducible assumption) | ((with_reducible refine Blk.new ?_); first | rfl | (simp; done)) | (with_reducible refine Blk.later (by assumption) ?_) | (with_reducible refine Blk.alloc ?_) | (with_reducible refine Blk.drewN ?_) | (with_reducible refine Blk.drew ?_) | (with_reducible refine Blk.other ?_ (by first | omega | (simp; done) | (simp; omega))))), by (repeat' (first | (with_reducible assumption) | ((with_reducible refine Blk.new ?_); first | rfl | (simp; done)) | (with_reducible refine Blk.later (by assumption) ?_) | (with_reducible refine Blk.alloc ?_) | (with_reducible refine Blk.drewN ?_) | (with_reducible refine Blk.drew ?_) | (with_reducible refine Blk.other ?_ (by first | omega | (simp; done) | (simp; omega))))), ?_, ?_, by (repeat' (first | (with_reducible exact Below.refl _ _) | (with_reducible assumption) | (with_reducible refine belowThru ?_ (by assumption)) | (with_reducible refine belowAlloc ?_) | (with_reducible refine Below.setCell ?_ (by first | omega | (simp; done) | (simp; omega)) _) | (with_reducible refine Below.drew ?_) | (with_reducible refine below_drewN ?_ _)))⟩
            · rw [show ((j : Int) - 1 + 1).toNat = j by omega, q1, OD.out.1, OD.out.2]; exact Blk.set (Blk.other (Blk.other k4 (by show w.heap.size + 1 + 1 + 1 + 1 ≠ w.heap.size + 1 + 1 + 1 + 1 + 1; omega)) (by show w.heap.size + 1 + 1 + 1 + 1 ≠ w.heap.size + 1 + 1 + 1 + 1 + 1; omega))
            · rw [show ((j : Int) - 1 + 1).toNat = j by omega, q2]; exact Blk.other (Blk.set (Blk.set k5)) (by show w.heap.size + 1 + 1 + 1 + 1 + 1 ≠ w.heap.size + 1 + 1 + 1 + 1; omega)
          case measure => simp [intOf] <;> omega
    · obtain rfl : n = -1 := by omega
      rw [show a / 2 ^ ((-1 : Int) + 1).toNat = a by rw [show ((-1 : Int) + 1).toNat = 0 from rfl, Int.pow_zero, Int.ediv_one]] at k4 k5 a4 a5
      go_wp2
      go_region_law (fail)
      all_goals
        go_wp2
        exact bodyPost_ret (v := .tuple #[.agg #[.int .u64 (whi (a / b)), .int .u64 (wlo (a / b))], .agg #[.int .u64 (whi (a % b)), .int .u64 (wlo (a % b))]]) (by simp only [results, Try.results131]; go_simp) rfl ⟨rfl, by (repeat' (first | (with_reducible exact Below.refl _ _) | (with_reducible assumption) | (with_reducible refine belowThru ?_ (by assumption)) | (with_reducible refine belowAlloc ?_) | (with_reducible refine Below.setCell ?_ (by first | omega | (simp; done) | (simp; omega)) _) | (with_reducible refine Below.drew ?_) | (with_reducible refine below_drewN ?_ _)))⟩
end Go.Proofs.Ytdimmnoflenfhaa
/-
  The document's own answers, layer 1: common divisors, and which fractions are valid.
-/
namespace Go.Proofs.Ytdimmnoflenfhaa
open Go.RowKit

/-- The number of two words that a block holds. -/
def wideOf (w : World) (b : Nat) : Int := match w.cell? ⟨b, 0, none⟩, w.cell? ⟨b, 1, none⟩ with
  | some (.int _ h), some (.int _ l) => h * 18446744073709551616 + l
  | _, _ => 0
theorem Blk.wide {w : World} {b : Nat} {z : Int} {t : TypeId} (k : Blk w b #[.int .u64 (whi z), .int .u64 (wlo z)] t) (h0 : 0 ≤ z) (h1 : z < 170141183460469231731687303715884105728) : wideOf w b = z := by
  unfold wideOf
  have e0 : w.cell? ⟨b, 0, none⟩ = some (.int .u64 (whi z)) := k.cells 0
  have e1 : w.cell? ⟨b, 1, none⟩ = some (.int .u64 (wlo z)) := k.cells 1
  rw [e0, e1]
  exact (pos_whi z h0 h1).symm

set_option maxRecDepth 100000 in
set_option maxHeartbeats 2000000 in
theorem common_any (a b : Int) (a0 : 0 ≤ a) (a1 : a < 170141183460469231731687303715884105728) (b0 : 0 ≤ b) (b1 : b < 170141183460469231731687303715884105728) (w : World) :
    Calls Try.prog 121 #[.agg #[.int .u64 (whi a), .int .u64 (wlo a)], .agg #[.int .u64 (whi b), .int .u64 (wlo b)]] w fun e w' => e = .returned (.agg #[.int .u64 (whi (gcdI a b)), .int .u64 (wlo (gcdI a b))]) ∧ Below w.heap.size w w' := by
  have HG := Lib.hid (⟨a0, a1, b0, b1⟩ : 0 ≤ a ∧ a < 170141183460469231731687303715884105728 ∧ 0 ≤ b ∧ b < 170141183460469231731687303715884105728)
  clear a0 a1 b0 b1
  obtain ⟨G, hG⟩ : ∃ G, gcdI a b = G := ⟨_, rfl⟩
  rw [hG]
  go_enter Try.func121, Try.ntmps121
  go_wp2
  go_loopw [] (fun wr => ∃ x y : Int, Hid (0 ≤ x ∧ x < 170141183460469231731687303715884105728 ∧ 0 ≤ y ∧ y < 170141183460469231731687303715884105728 ∧ gcdI x y = G) ∧ Blk wr w.heap.size #[.int .u64 (whi x), .int .u64 (wlo x)] 141 ∧ Blk wr (w.heap.size + 1) #[.int .u64 (whi y), .int .u64 (wlo y)] 141 ∧ Blk wr (w.heap.size + 1 + 1) #[.int .u64 0, .int .u64 0] 141 ∧ Below w.heap.size w wr) (fun wr => (wideOf wr (w.heap.size + 1)).toNat)
  case atStart =>
    exact ⟨a, b, Lib.hid ⟨HG.out.1, HG.out.2.1, HG.out.2.2.1, HG.out.2.2.2, hG⟩, by (repeat' (first | (with_reducible assumption) | ((with_reducible refine Blk.new ?_); first | rfl | (simp; done)) | (with_reducible refine Blk.later (by assumption) ?_) | (with_reducible refine Blk.alloc ?_) | (with_reducible refine Blk.drewN ?_) | (with_reducible refine Blk.drew ?_) | (with_reducible refine Blk.other ?_ (by first | omega | (simp; done) | (simp; omega))))), by (repeat' (first | (with_reducible assumption) | ((with_reducible refine Blk.new ?_); first | rfl | (simp; done)) | (with_reducible refine Blk.later (by assumption) ?_) | (with_reducible refine Blk.alloc ?_) | (with_reducible refine Blk.drewN ?_) | (with_reducible refine Blk.drew ?_) | (with_reducible refine Blk.other ?_ (by first | omega | (simp; done) | (simp; omega))))), by (repeat' (first | (with_reducible assumption) | ((with_reducible refine Blk.new ?_); first | rfl | (simp; done)) | (with_reducible refine Blk.later (by assumption) ?_) | (with_reducible refine Blk.alloc ?_) | (with_reducible refine Blk.drewN ?_) | (with_reducible refine Blk.drew ?_) | (with_reducible refine Blk.other ?_ (by first | omega | (simp; done) | (simp; omega))))), by (repeat' (first | (with_reducible exact Below.refl _ _) | (with_reducible assumption) | (with_reducible refine belowThru ?_ (by assumption)) | (with_reducible refine belowAlloc ?_) | (with_reducible refine Below.setCell ?_ (by first | omega | (simp; done) | (simp; omega)) _) | (with_reducible refine Below.drew ?_) | (with_reducible refine below_drewN ?_ _)))⟩
  case round =>
    clear hG
    obtain ⟨x, y, hxy, k0, k1, k2, hB⟩ := hrel
    obtain ⟨a0, b0⟩ := k0.read; obtain ⟨a1, b1⟩ := k1.read; obtain ⟨a2, b2⟩ := k2.read
    have z0 := k0.lt; have z2 := k2.lt
    by_cases hy : y = 0
    · subst hy
      have e := hxy.out.2.2.2.2
      rw [gcdI_zero x hxy.out.1] at e
      rw [whi_zero, wlo_zero] at k1 a1
      clear hxy HG
      subst e
      go_wp2
      exact bodyPost_ret (v := .agg #[.int .u64 (whi x), .int .u64 (wlo x)]) (by simp only [results, Try.results121]; go_simp) rfl ⟨rfl, by (repeat' (first | (with_reducible exact Below.refl _ _) | (with_reducible assumption) | (with_reducible refine belowThru ?_ (by assumption)) | (with_reducible refine belowAlloc ?_) | (with_reducible refine Below.setCell ?_ (by first | omega | (simp; done) | (simp; omega)) _) | (with_reducible refine Below.drew ?_) | (with_reducible refine below_drewN ?_ _)))⟩
    · have hne : ¬ (whi y = 0 ∧ wlo y = 0) := fun h => hy ((zero_of y (by have := hxy.out; omega) (by have := hxy.out; omega)).1 h)
      have HP := Lib.hid (fun w => parted_any x y hxy.out.1 (by have := hxy.out; omega) (by have := hxy.out; omega) (by have := hxy.out; omega) w)
      have hr0 := Int.emod_nonneg x hy
      have hr1 := Int.emod_lt_of_pos x (show 0 < y by have := hxy.out; omega)
      have hst : Hid ((0 ≤ y ∧ y < 170141183460469231731687303715884105728 ∧ 0 ≤ x % y ∧ x % y < 170141183460469231731687303715884105728 ∧ gcdI y (x % y) = G) ∧ x % y < y) :=
        Lib.hid ⟨⟨by have := hxy.out; omega, by have := hxy.out; omega, hr0, by have := hxy.out; omega, by rw [gcdI_step x y hxy.out.1 (by have := hxy.out; omega)]; exact hxy.out.2.2.2.2⟩, hr1⟩
      have hm := k1.wide hxy.out.2.2.1 hxy.out.2.2.2.1
      clear hr0 hr1 hy hxy HG
      obtain ⟨r, hr⟩ : ∃ r, x % y = r := ⟨_, rfl⟩
      rw [hr] at HP hst
      clear hr
      have hne2 : ¬ whi y = 0 ∨ (whi y = 0 ∧ ¬ wlo y = 0) := by
        by_cases h : whi y = 0
        · exact .inr ⟨h, fun k => hne ⟨h, k⟩⟩
        · exact .inl h
      clear hne
      obtain ⟨yh, hyh⟩ : ∃ yh, whi y = yh := ⟨_, rfl⟩
      rw [hyh] at HP hne2 k1 a1
      rcases hne2 with h | ⟨rfl, h⟩
      all_goals
        go_wp2_with (go_at_call 131; (with_reducible refine (HP.out _).mono ?_); rintro e w1 ⟨rfl, hb⟩; (try (have zk := k0.lt; (first | ((with_reducible refine Blk.keepG hb k0 (fun h => ?_) ?_); (focus ((repeat' (first | (with_reducible assumption) | ((with_reducible refine Blk.new ?_); first | rfl | (simp; done)) | (with_reducible refine Blk.later (by assumption) ?_) | (with_reducible refine Blk.alloc ?_) | (with_reducible refine Blk.drewN ?_) | (with_reducible refine Blk.drew ?_) | (with_reducible refine Blk.other ?_ (by first | omega | (simp; done) | (simp; omega))))); done)); clear k0; intro k0) | (with_reducible replace k0 := Blk.later hb (Blk.set (Blk.set k0))) | (with_reducible replace k0 := Blk.later hb (Blk.set k0))); clear a0 b0; obtain ⟨a0, b0⟩ := k0.read; have zl := k0.lt)); (try (have zk := k1.lt; (first | ((with_reducible refine Blk.keepG hb k1 (fun h => ?_) ?_); (focus ((repeat' (first | (with_reducible assumption) | ((with_reducible refine Blk.new ?_); first | rfl | (simp; done)) | (with_reducible refine Blk.later (by assumption) ?_) | (with_reducible refine Blk.alloc ?_) | (with_reducible refine Blk.drewN ?_) | (with_reducible refine Blk.drew ?_) | (with_reducible refine Blk.other ?_ (by first | omega | (simp; done) | (simp; omega))))); done)); clear k1; intro k1) | (with_reducible replace k1 := Blk.later hb (Blk.set (Blk.set k1))) | (with_reducible replace k1 := Blk.later hb (Blk.set k1))); clear a1 b1; obtain ⟨a1, b1⟩ := k1.read; have zl := k1.lt)); (try (have zk := k2.lt; (first | ((with_reducible refine Blk.keepG hb k2 (fun h => ?_) ?_); (focus ((repeat' (first | (with_reducible assumption) | ((with_reducible refine Blk.new ?_); first | rfl | (simp; done)) | (with_reducible refine Blk.later (by assumption) ?_) | (with_reducible refine Blk.alloc ?_) | (with_reducible refine Blk.drewN ?_) | (with_reducible refine Blk.drew ?_) | (with_reducible refine Blk.other ?_ (by first | omega | (simp; done) | (simp; omega))))); done)); clear k2; intro k2) | (with_reducible replace k2 := Blk.later hb (Blk.set (Blk.set k2))) | (with_reducible replace k2 := Blk.later hb (Blk.set k2))); clear a2 b2; obtain ⟨a2, b2⟩ := k2.read; have zl := k2.lt)); (first | (have zk := kn.lt; (first | ((with_reducible refine Blk.keepG hb kn (fun h => ?_) ?_); (focus ((repeat' (first | (with_reducible assumption) | ((with_reducible refine Blk.new ?_); first | rfl | (simp; done)) | (with_reducible refine Blk.later (by assumption) ?_) | (with_reducible refine Blk.alloc ?_) | (with_reducible refine Blk.drewN ?_) | (with_reducible refine Blk.drew ?_) | (with_reducible refine Blk.other ?_ (by first | omega | (simp; done) | (simp; omega))))); done)); clear kn; intro kn) | (with_reducible replace kn := Blk.later hb (Blk.set (Blk.set kn))) | (with_reducible replace kn := Blk.later hb (Blk.set kn))); clear an bn; obtain ⟨an, bn⟩ := kn.read; have zl := kn.lt) | ((first | (with_reducible have kn := Blk.later hb (Blk.new rfl)) | (with_reducible have kn := Blk.later hb (Blk.drew (Blk.new rfl))) | (with_reducible have kn := Blk.later hb (Blk.drewN (Blk.new rfl)))); (try simp only [World.size_alloc, World.size_drew, World.heap_drewN] at kn); obtain ⟨an, bn⟩ := kn.read; have zl := kn.lt) | skip))
        go_roundw
        case rel =>
          refine ⟨y, r, Lib.hid hst.out.1, ?_, ?_, ?_, by (repeat' (first | (with_reducible exact Below.refl _ _) | (with_reducible assumption) | (with_reducible refine belowThru ?_ (by assumption)) | (with_reducible refine belowAlloc ?_) | (with_reducible refine Below.setCell ?_ (by first | omega | (simp; done) | (simp; omega)) _) | (with_reducible refine Below.drew ?_) | (with_reducible refine below_drewN ?_ _)))⟩
          · rw [hyh]; exact Blk.alloc (Blk.alloc (Blk.other (Blk.other (Blk.set (Blk.set k0)) (by show w.heap.size ≠ w.heap.size + 1; omega)) (by show w.heap.size ≠ w.heap.size + 1; omega)))
          · exact Blk.alloc (Blk.alloc (Blk.set (Blk.set (Blk.other (Blk.other k1 (by show w.heap.size + 1 ≠ w.heap.size; omega)) (by show w.heap.size + 1 ≠ w.heap.size; omega)))))
          · (repeat' (first | (with_reducible assumption) | ((with_reducible refine Blk.new ?_); first | rfl | (simp; done)) | (with_reducible refine Blk.later (by assumption) ?_) | (with_reducible refine Blk.alloc ?_) | (with_reducible refine Blk.drewN ?_) | (with_reducible refine Blk.drew ?_) | (with_reducible refine Blk.other ?_ (by first | omega | (simp; done) | (simp; omega)))))
        case measure =>
          refine Nat.lt_of_le_of_lt (m := r.toNat) (Nat.le_of_eq (congrArg Int.toNat (Blk.wide (t := 141) ?_ hst.out.1.2.2.1 hst.out.1.2.2.2.1))) ?_
          · exact Blk.alloc (Blk.alloc (Blk.set (Blk.set (Blk.other (Blk.other k1 (by show w.heap.size + 1 ≠ w.heap.size; omega)) (by show w.heap.size + 1 ≠ w.heap.size; omega)))))
          · rw [hm]; have := hst.out; omega

end Go.Proofs.Ytdimmnoflenfhaa
/-
  The document's own answers, layer 1: signs, lowest terms.
-/
namespace Go.Proofs.Ytdimmnoflenfhaa
open Go.RowKit

set_option maxHeartbeats 400000 in
theorem rsign_any (n : Int) (w : World) :
    Calls Try.prog 116 #[.int .i64 n] w fun e w' => e = .returned (.int .i64 n.sign) ∧ w = w' := by
  rcases Int.lt_trichotomy n 0 with h | rfl | h
  · rw [Int.sign_eq_neg_one_of_neg h]
    go_enter Try.func116, Try.ntmps116
    go_wp2
    go_ret
    exact ⟨rfl, rfl⟩
  · go_enter Try.func116, Try.ntmps116
    go_wp2
    go_ret
    exact ⟨rfl, rfl⟩
  · rw [Int.sign_eq_one_of_pos h]
    have h' : ¬ n < 0 := by omega
    go_enter Try.func116, Try.ntmps116
    go_wp2
    go_ret
    exact ⟨rfl, rfl⟩

set_option maxHeartbeats 400000 in
theorem rfit_yes (a b : Int) (w : World) :
    Calls Try.prog 129 #[.agg #[.int .i64 a, .int .i64 b], .bool true] w fun e w' => e = .returned (.tuple #[.agg #[.int .i64 a, .int .i64 b], .int .i64 0]) ∧ Below w.heap.size w w' := by
  go_enter Try.func129, Try.ntmps129
  go_wp2
  exact bodyPost_ret (v := .tuple #[.agg #[.int .i64 a, .int .i64 b], .int .i64 0]) (by simp only [results, Try.results129]; go_simp) rfl ⟨rfl, by (repeat' (first | (with_reducible exact Below.refl _ _) | (with_reducible assumption) | (with_reducible refine belowThru ?_ (by assumption)) | (with_reducible refine belowAlloc ?_) | (with_reducible refine Below.setCell ?_ (by first | omega | (simp; done) | (simp; omega)) _) | (with_reducible refine Below.drew ?_) | (with_reducible refine below_drewN ?_ _)))⟩
set_option maxHeartbeats 400000 in
theorem rfit_no (a b : Int) (w : World) :
    Calls Try.prog 129 #[.agg #[.int .i64 a, .int .i64 b], .bool false] w fun e w' => e = .returned (.tuple #[.agg #[.int .i64 0, .int .i64 0], .int .i64 4]) ∧ Below w.heap.size w w' := by
  go_enter Try.func129, Try.ntmps129
  go_wp2
  exact bodyPost_ret (v := .tuple #[.agg #[.int .i64 0, .int .i64 0], .int .i64 4]) (by simp only [results, Try.results129]; go_simp) rfl ⟨rfl, by (repeat' (first | (with_reducible exact Below.refl _ _) | (with_reducible assumption) | (with_reducible refine belowThru ?_ (by assumption)) | (with_reducible refine belowAlloc ?_) | (with_reducible refine Below.setCell ?_ (by first | omega | (simp; done) | (simp; omega)) _) | (with_reducible refine Below.drew ?_) | (with_reducible refine below_drewN ?_ _)))⟩
theorem rfit_q (x : Rat) (w : World) :
    Calls Try.prog 129 #[.agg #[.int .i64 (rn x), .int .i64 (rd x)], .bool (decide (re x = 0))] w fun e w' => e = .returned (.tuple #[.agg #[.int .i64 (rn x), .int .i64 (rd x)], .int .i64 (re x)]) ∧ Below w.heap.size w w' := by
  unfold rn rd re
  by_cases h : fits x
  · simp only [if_pos h]; exact rfit_yes _ _ w
  · simp only [if_neg h]; exact rfit_no _ _ w

set_option maxRecDepth 100000 in
set_option maxHeartbeats 2000000 in
theorem lowest_walk (s u1 u0 v1 v0 g1 g0 nh nl dh dl t1 t2 t3 t4 A B : Int) (ok : Bool) (w : World)
    (HC : Hid (∀ w, Calls Try.prog 121 #[.agg #[.int .u64 u1, .int .u64 u0], .agg #[.int .u64 v1, .int .u64 v0]] w fun e w' => e = .returned (.agg #[.int .u64 g1, .int .u64 g0]) ∧ Below w.heap.size w w'))
    (HN : Hid (∀ w, Calls Try.prog 131 #[.agg #[.int .u64 u1, .int .u64 u0], .agg #[.int .u64 g1, .int .u64 g0]] w fun e w' => e = .returned (.tuple #[.agg #[.int .u64 nh, .int .u64 nl], .agg #[.int .u64 t1, .int .u64 t2]]) ∧ Below w.heap.size w w'))
    (HD : Hid (∀ w, Calls Try.prog 131 #[.agg #[.int .u64 v1, .int .u64 v0], .agg #[.int .u64 g1, .int .u64 g0]] w fun e w' => e = .returned (.tuple #[.agg #[.int .u64 dh, .int .u64 dl], .agg #[.int .u64 t3, .int .u64 t4]]) ∧ Below w.heap.size w w'))
    (hv : ((nh != 0) = true ∧ A = 0 ∧ B = 0 ∧ ok = false) ∨ (nh = 0 ∧ (dh != 0) = true ∧ A = 0 ∧ B = 0 ∧ ok = false) ∨ (nh = 0 ∧ dh = 0 ∧ 4611686018427387903 < nl ∧ A = 0 ∧ B = 0 ∧ ok = false) ∨
      (nh = 0 ∧ dh = 0 ∧ ¬ 4611686018427387903 < nl ∧ 4611686018427387903 < dl ∧ A = 0 ∧ B = 0 ∧ ok = false) ∨
      (nh = 0 ∧ dh = 0 ∧ ¬ 4611686018427387903 < nl ∧ ¬ 4611686018427387903 < dl ∧ s < 0 ∧ IntKind.i64.wrap nl = nl ∧ IntKind.i64.wrap (-nl) = A ∧ IntKind.i64.wrap dl = B ∧ ok = true) ∨
      (nh = 0 ∧ dh = 0 ∧ ¬ 4611686018427387903 < nl ∧ ¬ 4611686018427387903 < dl ∧ ¬ s < 0 ∧ IntKind.i64.wrap nl = A ∧ IntKind.i64.wrap dl = B ∧ ok = true)) :
    Calls Try.prog 117 #[.int .i64 s, .agg #[.int .u64 u1, .int .u64 u0], .agg #[.int .u64 v1, .int .u64 v0]] w fun e w' => e = .returned (.tuple #[.agg #[.int .i64 A, .int .i64 B], .bool ok]) ∧ Below w.heap.size w w' := by
  rcases hv with ⟨h1, rfl, rfl, rfl⟩ | ⟨rfl, h1, rfl, rfl, rfl⟩ | ⟨rfl, rfl, h1, rfl, rfl, rfl⟩ | ⟨rfl, rfl, h1, h2, rfl, rfl, rfl⟩ | ⟨rfl, rfl, h1, h2, h3, h4, h5, h6, rfl⟩ | ⟨rfl, rfl, h1, h2, h3, h4, h5, rfl⟩
  all_goals
    go_enter Try.func117, Try.ntmps117
    go_upto_region 3 with (first
      | (go_at_call 121; (with_reducible refine (HC.out _).mono ?_); rintro e w1 ⟨rfl, hb⟩; (first | ((with_reducible have k0 := Blk.later hb (Blk.alloc (Blk.alloc (Blk.new rfl)))); (with_reducible have k1 := Blk.later hb (Blk.alloc (Blk.new rfl))); (with_reducible have k2 := Blk.later hb (Blk.new rfl)); simp only [World.size_alloc] at k1 k2; obtain ⟨a0, b0⟩ := k0.read; have zl := k0.lt; obtain ⟨a1, b1⟩ := k1.read; have zl := k1.lt; obtain ⟨a2, b2⟩ := k2.read; have zl := k2.lt) | ((try (have zk := k0.lt; (first | ((with_reducible refine Blk.keepG hb k0 (fun h => ?_) ?_); (focus ((repeat' (first | (with_reducible assumption) | ((with_reducible refine Blk.new ?_); first | rfl | (simp; done)) | (with_reducible refine Blk.later (by assumption) ?_) | (with_reducible refine Blk.alloc ?_) | (with_reducible refine Blk.drewN ?_) | (with_reducible refine Blk.drew ?_) | (with_reducible refine Blk.other ?_ (by first | omega | (simp; done) | (simp; omega))))); done)); clear k0; intro k0) | (with_reducible replace k0 := Blk.later hb (Blk.set (Blk.set k0))) | (with_reducible replace k0 := Blk.later hb (Blk.set k0))); clear a0 b0; obtain ⟨a0, b0⟩ := k0.read; have zl := k0.lt)); (try (have zk := k1.lt; (first | ((with_reducible refine Blk.keepG hb k1 (fun h => ?_) ?_); (focus ((repeat' (first | (with_reducible assumption) | ((with_reducible refine Blk.new ?_); first | rfl | (simp; done)) | (with_reducible refine Blk.later (by assumption) ?_) | (with_reducible refine Blk.alloc ?_) | (with_reducible refine Blk.drewN ?_) | (with_reducible refine Blk.drew ?_) | (with_reducible refine Blk.other ?_ (by first | omega | (simp; done) | (simp; omega))))); done)); clear k1; intro k1) | (with_reducible replace k1 := Blk.later hb (Blk.set (Blk.set k1))) | (with_reducible replace k1 := Blk.later hb (Blk.set k1))); clear a1 b1; obtain ⟨a1, b1⟩ := k1.read; have zl := k1.lt)); (try (have zk := k2.lt; (first | ((with_reducible refine Blk.keepG hb k2 (fun h => ?_) ?_); (focus ((repeat' (first | (with_reducible assumption) | ((with_reducible refine Blk.new ?_); first | rfl | (simp; done)) | (with_reducible refine Blk.later (by assumption) ?_) | (with_reducible refine Blk.alloc ?_) | (with_reducible refine Blk.drewN ?_) | (with_reducible refine Blk.drew ?_) | (with_reducible refine Blk.other ?_ (by first | omega | (simp; done) | (simp; omega))))); done)); clear k2; intro k2) | (with_reducible replace k2 := Blk.later hb (Blk.set (Blk.set k2))) | (with_reducible replace k2 := Blk.later hb (Blk.set k2))); clear a2 b2; obtain ⟨a2, b2⟩ := k2.read; have zl := k2.lt)); (try (have zk := k3.lt; (first | ((with_reducible refine Blk.keepG hb k3 (fun h => ?_) ?_); (focus ((repeat' (first | (with_reducible assumption) | ((with_reducible refine Blk.new ?_); first | rfl | (simp; done)) | (with_reducible refine Blk.later (by assumption) ?_) | (with_reducible refine Blk.alloc ?_) | (with_reducible refine Blk.drewN ?_) | (with_reducible refine Blk.drew ?_) | (with_reducible refine Blk.other ?_ (by first | omega | (simp; done) | (simp; omega))))); done)); clear k3; intro k3) | (with_reducible replace k3 := Blk.later hb (Blk.set (Blk.set k3))) | (with_reducible replace k3 := Blk.later hb (Blk.set k3))); clear a3 b3; obtain ⟨a3, b3⟩ := k3.read; have zl := k3.lt)); (try (have zk := k4.lt; (first | ((with_reducible refine Blk.keepG hb k4 (fun h => ?_) ?_); (focus ((repeat' (first | (with_reducible assumption) | ((with_reducible refine Blk.new ?_); first | rfl | (simp; done)) | (with_reducible refine Blk.later (by assumption) ?_) | (with_reducible refine Blk.alloc ?_) | (with_reducible refine Blk.drewN ?_) | (with_reducible refine Blk.drew ?_) | (with_reducible refine Blk.other ?_ (by first | omega | (simp; done) | (simp; omega))))); done)); clear k4; intro k4) | (with_reducible replace k4 := Blk.later hb (Blk.set (Blk.set k4))) | (with_reducible replace k4 := Blk.later hb (Blk.set k4))); clear a4 b4; obtain ⟨a4, b4⟩ := k4.read; have zl := k4.lt)); (try (have zk := k5.lt; (first | ((with_reducible refine Blk.keepG hb k5 (fun h => ?_) ?_); (focus ((repeat' (first | (with_reducible assumption) | ((with_reducible refine Blk.new ?_); first | rfl | (simp; done)) | (with_reducible refine Blk.later (by assumption) ?_) | (with_reducible refine Blk.alloc ?_) | (with_reducible refine Blk.drewN ?_) | (with_reducible refine Blk.drew ?_) | (with_reducible refine Blk.other ?_ (by first | omega | (simp; done) | (simp; omega))))); done)); clear k5; intro k5) | (with_reducible replace k5 := Blk.later hb (Blk.set (Blk.set k5))) | (with_reducible replace k5 := Blk.later hb (Blk.set k5))); clear a5 b5; obtain ⟨a5, b5⟩ := k5.read; have zl := k5.lt)))))
      | (go_at_call 131; (with_reducible refine (HN.out _).mono ?_); rintro e w1 ⟨rfl, hb⟩; (try (have zk := k0.lt; (first | ((with_reducible refine Blk.keepG hb k0 (fun h => ?_) ?_); (focus ((repeat' (first | (with_reducible assumption) | ((with_reducible refine Blk.new ?_); first | rfl | (simp; done)) | (with_reducible refine Blk.later (by assumption) ?_) | (with_reducible refine Blk.alloc ?_) | (with_reducible refine Blk.drewN ?_) | (with_reducible refine Blk.drew ?_) | (with_reducible refine Blk.other ?_ (by first | omega | (simp; done) | (simp; omega))))); done)); clear k0; intro k0) | (with_reducible replace k0 := Blk.later hb (Blk.set (Blk.set k0))) | (with_reducible replace k0 := Blk.later hb (Blk.set k0))); clear a0 b0; obtain ⟨a0, b0⟩ := k0.read; have zl := k0.lt)); (try (have zk := k1.lt; (first | ((with_reducible refine Blk.keepG hb k1 (fun h => ?_) ?_); (focus ((repeat' (first | (with_reducible assumption) | ((with_reducible refine Blk.new ?_); first | rfl | (simp; done)) | (with_reducible refine Blk.later (by assumption) ?_) | (with_reducible refine Blk.alloc ?_) | (with_reducible refine Blk.drewN ?_) | (with_reducible refine Blk.drew ?_) | (with_reducible refine Blk.other ?_ (by first | omega | (simp; done) | (simp; omega))))); done)); clear k1; intro k1) | (with_reducible replace k1 := Blk.later hb (Blk.set (Blk.set k1))) | (with_reducible replace k1 := Blk.later hb (Blk.set k1))); clear a1 b1; obtain ⟨a1, b1⟩ := k1.read; have zl := k1.lt)); (try (have zk := k2.lt; (first | ((with_reducible refine Blk.keepG hb k2 (fun h => ?_) ?_); (focus ((repeat' (first | (with_reducible assumption) | ((with_reducible refine Blk.new ?_); first | rfl | (simp; done)) | (with_reducible refine Blk.later (by assumption) ?_) | (with_reducible refine Blk.alloc ?_) | (with_reducible refine Blk.drewN ?_) | (with_reducible refine Blk.drew ?_) | (with_reducible refine Blk.other ?_ (by first | omega | (simp; done) | (simp; omega))))); done)); clear k2; intro k2) | (with_reducible replace k2 := Blk.later hb (Blk.set (Blk.set k2))) | (with_reducible replace k2 := Blk.later hb (Blk.set k2))); clear a2 b2; obtain ⟨a2, b2⟩ := k2.read; have zl := k2.lt)); (try (have zk := k3.lt; (first | ((with_reducible refine Blk.keepG hb k3 (fun h => ?_) ?_); (focus ((repeat' (first | (with_reducible assumption) | ((with_reducible refine Blk.new ?_); first | rfl | (simp; done)) | (with_reducible refine Blk.later (by assumption) ?_) | (with_reducible refine Blk.alloc ?_) | (with_reducible refine Blk.drewN ?_) | (with_reducible refine Blk.drew ?_) | (with_reducible refine Blk.other ?_ (by first | omega | (simp; done) | (simp; omega))))); done)); clear k3; intro k3) | (with_reducible replace k3 := Blk.later hb (Blk.set (Blk.set k3))) | (with_reducible replace k3 := Blk.later hb (Blk.set k3))); clear a3 b3; obtain ⟨a3, b3⟩ := k3.read; have zl := k3.lt)); (try (have zk := k4.lt; (first | ((with_reducible refine Blk.keepG hb k4 (fun h => ?_) ?_); (focus ((repeat' (first | (with_reducible assumption) | ((with_reducible refine Blk.new ?_); first | rfl | (simp; done)) | (with_reducible refine Blk.later (by assumption) ?_) | (with_reducible refine Blk.alloc ?_) | (with_reducible refine Blk.drewN ?_) | (with_reducible refine Blk.drew ?_) | (with_reducible refine Blk.other ?_ (by first | omega | (simp; done) | (simp; omega))))); done)); clear k4; intro k4) | (with_reducible replace k4 := Blk.later hb (Blk.set (Blk.set k4))) | (with_reducible replace k4 := Blk.later hb (Blk.set k4))); clear a4 b4; obtain ⟨a4, b4⟩ := k4.read; have zl := k4.lt)); (try (have zk := k5.lt; (first | ((with_reducible refine Blk.keepG hb k5 (fun h => ?_) ?_); (focus ((repeat' (first | (with_reducible assumption) | ((with_reducible refine Blk.new ?_); first | rfl | (simp; done)) | (with_reducible refine Blk.later (by assumption) ?_) | (with_reducible refine Blk.alloc ?_) | (with_reducible refine Blk.drewN ?_) | (with_reducible refine Blk.drew ?_) | (with_reducible refine Blk.other ?_ (by first | omega | (simp; done) | (simp; omega))))); done)); clear k5; intro k5) | (with_reducible replace k5 := Blk.later hb (Blk.set (Blk.set k5))) | (with_reducible replace k5 := Blk.later hb (Blk.set k5))); clear a5 b5; obtain ⟨a5, b5⟩ := k5.read; have zl := k5.lt)); ((with_reducible have k3 := Blk.later hb (Blk.new rfl)); (try simp only [World.size_alloc, World.size_drew, World.heap_drewN] at k3); obtain ⟨a3, b3⟩ := k3.read; have zl := k3.lt)))
    clear HC HN
    go_upto_region 4 with (first
      | (go_at_call 131; (with_reducible refine (HD.out _).mono ?_); rintro e w1 ⟨rfl, hb⟩; (try (have zk := k0.lt; (first | ((with_reducible refine Blk.keepG hb k0 (fun h => ?_) ?_); (focus ((repeat' (first | (with_reducible assumption) | ((with_reducible refine Blk.new ?_); first | rfl | (simp; done)) | (with_reducible refine Blk.later (by assumption) ?_) | (with_reducible refine Blk.alloc ?_) | (with_reducible refine Blk.drewN ?_) | (with_reducible refine Blk.drew ?_) | (with_reducible refine Blk.other ?_ (by first | omega | (simp; done) | (simp; omega))))); done)); clear k0; intro k0) | (with_reducible replace k0 := Blk.later hb (Blk.set (Blk.set k0))) | (with_reducible replace k0 := Blk.later hb (Blk.set k0))); clear a0 b0; obtain ⟨a0, b0⟩ := k0.read; have zl := k0.lt)); (try (have zk := k1.lt; (first | ((with_reducible refine Blk.keepG hb k1 (fun h => ?_) ?_); (focus ((repeat' (first | (with_reducible assumption) | ((with_reducible refine Blk.new ?_); first | rfl | (simp; done)) | (with_reducible refine Blk.later (by assumption) ?_) | (with_reducible refine Blk.alloc ?_) | (with_reducible refine Blk.drewN ?_) | (with_reducible refine Blk.drew ?_) | (with_reducible refine Blk.other ?_ (by first | omega | (simp; done) | (simp; omega))))); done)); clear k1; intro k1) | (with_reducible replace k1 := Blk.later hb (Blk.set (Blk.set k1))) | (with_reducible replace k1 := Blk.later hb (Blk.set k1))); clear a1 b1; obtain ⟨a1, b1⟩ := k1.read; have zl := k1.lt)); (try (have zk := k2.lt; (first | ((with_reducible refine Blk.keepG hb k2 (fun h => ?_) ?_); (focus ((repeat' (first | (with_reducible assumption) | ((with_reducible refine Blk.new ?_); first | rfl | (simp; done)) | (with_reducible refine Blk.later (by assumption) ?_) | (with_reducible refine Blk.alloc ?_) | (with_reducible refine Blk.drewN ?_) | (with_reducible refine Blk.drew ?_) | (with_reducible refine Blk.other ?_ (by first | omega | (simp; done) | (simp; omega))))); done)); clear k2; intro k2) | (with_reducible replace k2 := Blk.later hb (Blk.set (Blk.set k2))) | (with_reducible replace k2 := Blk.later hb (Blk.set k2))); clear a2 b2; obtain ⟨a2, b2⟩ := k2.read; have zl := k2.lt)); (try (have zk := k3.lt; (first | ((with_reducible refine Blk.keepG hb k3 (fun h => ?_) ?_); (focus ((repeat' (first | (with_reducible assumption) | ((with_reducible refine Blk.new ?_); first | rfl | (simp; done)) | (with_reducible refine Blk.later (by assumption) ?_) | (with_reducible refine Blk.alloc ?_) | (with_reducible refine Blk.drewN ?_) | (with_reducible refine Blk.drew ?_) | (with_reducible refine Blk.other ?_ (by first | omega | (simp; done) | (simp; omega))))); done)); clear k3; intro k3) | (with_reducible replace k3 := Blk.later hb (Blk.set (Blk.set k3))) | (with_reducible replace k3 := Blk.later hb (Blk.set k3))); clear a3 b3; obtain ⟨a3, b3⟩ := k3.read; have zl := k3.lt)); (try (have zk := k4.lt; (first | ((with_reducible refine Blk.keepG hb k4 (fun h => ?_) ?_); (focus ((repeat' (first | (with_reducible assumption) | ((with_reducible refine Blk.new ?_); first | rfl | (simp; done)) | (with_reducible refine Blk.later (by assumption) ?_) | (with_reducible refine Blk.alloc ?_) | (with_reducible refine Blk.drewN ?_) | (with_reducible refine Blk.drew ?_) | (with_reducible refine Blk.other ?_ (by first | omega | (simp; done) | (simp; omega))))); done)); clear k4; intro k4) | (with_reducible replace k4 := Blk.later hb (Blk.set (Blk.set k4))) | (with_reducible replace k4 := Blk.later hb (Blk.set k4))); clear a4 b4; obtain ⟨a4, b4⟩ := k4.read; have zl := k4.lt)); (try (have zk := k5.lt; (first | ((with_reducible refine Blk.keepG hb k5 (fun h => ?_) ?_); (focus ((repeat' (first | (with_reducible assumption) | ((with_reducible refine Blk.new ?_); first | rfl | (simp; done)) | (with_reducible refine Blk.later (by assumption) ?_) | (with_reducible refine Blk.alloc ?_) | (with_reducible refine Blk.drewN ?_) | (with_reducible refine Blk.drew ?_) | (with_reducible refine Blk.other ?_ (by first | omega | (simp; done) | (simp; omega))))); done)); clear k5; intro k5) | (with_reducible replace k5 := Blk.later hb (Blk.set (Blk.set k5))) | (with_reducible replace k5 := Blk.later hb (Blk.set k5))); clear a5 b5; obtain ⟨a5, b5⟩ := k5.read; have zl := k5.lt)); ((with_reducible have k4 := Blk.later hb (Blk.alloc (Blk.new rfl))); (with_reducible have k5 := Blk.later hb (Blk.new rfl)); (try simp only [World.size_alloc] at k4); (try simp only [World.size_alloc] at k5); obtain ⟨a4, b4⟩ := k4.read; have zl := k4.lt; obtain ⟨a5, b5⟩ := k5.read; have zl := k5.lt)))
    clear HD
    go_wp2
    first
    | exact bodyPost_ret (v := .tuple #[.agg #[.int .i64 0, .int .i64 0], .bool false]) (by simp only [results, Try.results117]; go_simp) rfl ⟨rfl, by (repeat' (first | (with_reducible exact Below.refl _ _) | (with_reducible assumption) | (with_reducible refine belowThru ?_ (by assumption)) | (with_reducible refine belowAlloc ?_) | (with_reducible refine Below.setCell ?_ (by first | omega | (simp; done) | (simp; omega)) _) | (with_reducible refine Below.drew ?_) | (with_reducible refine below_drewN ?_ _)))⟩
    | exact bodyPost_ret (v := .tuple #[.agg #[.int .i64 A, .int .i64 B], .bool true]) (by simp only [results, Try.results117]; go_simp) rfl ⟨rfl, by (repeat' (first | (with_reducible exact Below.refl _ _) | (with_reducible assumption) | (with_reducible refine belowThru ?_ (by assumption)) | (with_reducible refine belowAlloc ?_) | (with_reducible refine Below.setCell ?_ (by first | omega | (simp; done) | (simp; omega)) _) | (with_reducible refine Below.drew ?_) | (with_reducible refine below_drewN ?_ _)))⟩

/-- A fraction in lowest terms: the parts of the rational number. -/
theorem low_parts (s num den : Int) (n0 : 0 ≤ num) (d0 : 1 ≤ den) (x : Rat) (hx : x = mkR (if s < 0 then -num else num) den) :
    fn x = (if s < 0 then -(num / gcdI num den) else num / gcdI num den) ∧ fd x = den / gcdI num den := by
  subst hx
  by_cases hs : s < 0
  · rw [if_pos hs, if_pos hs]
    obtain ⟨p1, p2⟩ := mkR_parts (-num) den (gcdI num den) (by omega) (by congr 1 <;> omega)
    refine ⟨?_, by rw [p2]; congr 1; omega⟩
    rw [p1, Int.sign_eq_one_of_pos (by omega), Int.natAbs_neg, show (num.natAbs : Int) = num by omega]
    rcases Int.lt_trichotomy num 0 with h | rfl | h
    · omega
    · simp
    · rw [Int.sign_eq_neg_one_of_neg (by omega)]; simp
  · rw [if_neg hs, if_neg hs]
    obtain ⟨p1, p2⟩ := mkR_parts num den (gcdI num den) (by omega) (by congr 1 <;> omega)
    refine ⟨?_, by rw [p2]; congr 1; omega⟩
    rw [p1, Int.sign_eq_one_of_pos (by omega), show (num.natAbs : Int) = num by omega]
    rcases Int.lt_trichotomy num 0 with h | rfl | h
    · omega
    · simp
    · rw [Int.sign_eq_one_of_pos h]; simp

theorem lowest_q (x : Rat) (s num den : Int) (n0 : 0 ≤ num) (n1 : num < 170141183460469231731687303715884105728) (d0 : 1 ≤ den) (d1 : den < 170141183460469231731687303715884105728)
    (hx : x = mkR (if s < 0 then -num else num) den) (w : World) :
    Calls Try.prog 117 #[.int .i64 s, .agg #[.int .u64 (whi num), .int .u64 (wlo num)], .agg #[.int .u64 (whi den), .int .u64 (wlo den)]] w fun e w' => e = .returned (.tuple #[.agg #[.int .i64 (rn x), .int .i64 (rd x)], .bool (decide (re x = 0))]) ∧ Below w.heap.size w w' := by
  obtain ⟨p1, p2⟩ := low_parts s num den n0 d0 x hx
  have g0 := gcdI_pos_right num den (by omega)
  have g1 := gcdI_le_right num den (by omega)
  have hN0 := Int.ediv_nonneg n0 (show 0 ≤ gcdI num den by omega)
  have hN1 := Int.ediv_le_self (gcdI num den) n0
  have hD0 := Int.ediv_nonneg (show 0 ≤ den by omega) (show 0 ≤ gcdI num den by omega)
  have hD1 := Int.ediv_le_self (gcdI num den) (show 0 ≤ den by omega)
  have e := fd_pos x
  refine lowest_walk s (whi num) (wlo num) (whi den) (wlo den) (whi (gcdI num den)) (wlo (gcdI num den)) (whi (num / gcdI num den)) (wlo (num / gcdI num den)) (whi (den / gcdI num den)) (wlo (den / gcdI num den)) _ _ _ _ _ _ _ w
    (Lib.hid (common_any num den n0 n1 (by omega) d1)) (Lib.hid (parted_any num _ n0 (by omega) (by omega) (by omega))) (Lib.hid (parted_any den _ (by omega) (by omega) (by omega) (by omega))) ?_
  generalize gcdI num den = g at *
  generalize num / g = N at *
  generalize den / g = D at *
  have yes : fits x → rn x = fn x ∧ rd x = fd x ∧ decide (re x = 0) = true := fun h => ⟨if_pos h, if_pos h, by unfold re; rw [if_pos h]; rfl⟩
  have no : ¬ fits x → rn x = 0 ∧ rd x = 0 ∧ decide (re x = 0) = false := fun h => ⟨if_neg h, if_neg h, by unfold re; rw [if_neg h]; rfl⟩
  have hf : fits x ↔ N ≤ 4611686018427387903 ∧ D ≤ 4611686018427387903 := by
    unfold fits
    rw [p1, p2]
    split <;> omega
  have w1 : N = 18446744073709551616 * whi N + wlo N := by unfold whi wlo B64; omega
  have w2 : D = 18446744073709551616 * whi D + wlo D := by unfold whi wlo B64; omega
  have w3 : 0 ≤ wlo N ∧ 0 ≤ wlo D ∧ 0 ≤ whi N ∧ 0 ≤ whi D := by unfold whi wlo B64; omega
  generalize whi N = nh at *
  generalize wlo N = nl at *
  generalize whi D = dh at *
  generalize wlo D = dl at *
  by_cases c1 : nh = 0
  · by_cases c2 : dh = 0
    · subst c1 c2
      by_cases c3 : 4611686018427387903 < nl
      · obtain ⟨y1, y2, y3⟩ := no (fun h => by have := hf.1 h; omega)
        exact .inr (.inr (.inl ⟨rfl, rfl, c3, y1, y2, y3⟩))
      · by_cases c4 : 4611686018427387903 < dl
        · obtain ⟨y1, y2, y3⟩ := no (fun h => by have := hf.1 h; omega)
          exact .inr (.inr (.inr (.inl ⟨rfl, rfl, c3, c4, y1, y2, y3⟩)))
        · obtain ⟨y1, y2, y3⟩ := yes (hf.2 (by omega))
          by_cases c5 : s < 0
          · refine .inr (.inr (.inr (.inr (.inl ⟨rfl, rfl, c3, c4, c5, IntWalk.i64_in nl (by omega), ?_, ?_, y3⟩))))
            · rw [y1, p1, if_pos c5, IntWalk.i64_in _ (by omega)]; omega
            · rw [y2, p2, IntWalk.i64_in dl (by omega)]; omega
          · refine .inr (.inr (.inr (.inr (.inr ⟨rfl, rfl, c3, c4, c5, ?_, ?_, y3⟩))))
            · rw [y1, p1, if_neg c5, IntWalk.i64_in nl (by omega)]; omega
            · rw [y2, p2, IntWalk.i64_in dl (by omega)]; omega
    · obtain ⟨y1, y2, y3⟩ := no (fun h => by have := hf.1 h; omega)
      exact .inr (.inl ⟨c1, by simpa using c2, y1, y2, y3⟩)
  · obtain ⟨y1, y2, y3⟩ := no (fun h => by have := hf.1 h; omega)
    exact .inl ⟨by simpa using c1, y1, y2, y3⟩
end Go.Proofs.Ytdimmnoflenfhaa
/-
  The document's own answers, layer 1: order, products, quotients and sums of rational numbers that fit.
-/
namespace Go.Proofs.Ytdimmnoflenfhaa
open Go.RowKit

theorem sg (p : Int) : (p < 0 ∧ p.sign = -1) ∨ (p = 0 ∧ p.sign = 0) ∨ (0 < p ∧ p.sign = 1) := by
  rcases Int.lt_trichotomy p 0 with h | h | h
  · exact .inl ⟨h, Int.sign_eq_neg_one_of_neg h⟩
  · exact .inr (.inl ⟨h, by rw [h]; rfl⟩)
  · exact .inr (.inr ⟨h, Int.sign_eq_one_of_pos h⟩)
theorem sg_mul (n d : Int) (hd : 1 ≤ d) : (n * d).sign = n.sign := by
  rw [Int.sign_mul, Int.sign_eq_one_of_pos (show 0 < d by omega), Int.mul_one]
theorem mag_mul_pos (n d : Int) (hd : 1 ≤ d) : mag n * d = mag (n * d) := by
  have := mag_mul n d
  rwa [mag_pos d (by omega)] at this
theorem mag_sg (p : Int) : (p < 0 → mag p = -p) ∧ (0 ≤ p → mag p = p) := ⟨mag_neg p, mag_pos p⟩

theorem rsize_pos (d : Int) (h : 0 ≤ d) (h2 : d ≤ 9223372036854775807) (w : World) :
    Calls Try.prog 115 #[.int .i64 d] w fun e w' => e = .returned (.int .u64 d) ∧ w = w' := by
  have := rsize_any d (by omega) h2 w
  rwa [mag_pos d h] at this

theorem mkR_add (q r : Rat) : mkR (fn q * fd r + fn r * fd q) (fd q * fd r) = q + r := by
  conv => rhs; rw [← mkR_self q, ← mkR_self r]
  unfold mkR
  rw [Rat.divInt_add_divInt _ _ (fd_ne q) (fd_ne r)]

end Go.Proofs.Ytdimmnoflenfhaa
/-
  The document's own answers, layer 1: what its calls return of numbers and of fractions.
-/
namespace Go.Proofs.Ytdimmnoflenfhaa
open Go.RowKit

set_option maxHeartbeats 400000 in
theorem rneg_q (r : Rat) (hr : fits r) (w : World) :
    Calls Try.prog 92 #[.agg #[.int .i64 (fn r), .int .i64 (fd r)]] w fun e w' => e = .returned (.agg #[.int .i64 (fn (-r)), .int .i64 (fd (-r))]) ∧ Below w.heap.size w w' := by
  have e1 : fn (-r) = -fn r := rfl
  have e2 : fd (-r) = fd r := rfl
  have e3 : IntKind.i64.wrap (-fn r) = -fn r := IntWalk.i64_in _ (by unfold fits at hr; omega)
  rw [e1, e2]
  clear hr e1 e2
  go_enter Try.func92, Try.ntmps92
  go_wp2
  exact bodyPost_ret (v := .agg #[.int .i64 (-fn r), .int .i64 (fd r)]) (by simp only [results, Try.results92]; go_simp) rfl ⟨rfl, by (repeat' (first | (with_reducible exact Below.refl _ _) | (with_reducible assumption) | (with_reducible refine belowThru ?_ (by assumption)) | (with_reducible refine belowAlloc ?_) | (with_reducible refine Below.setCell ?_ (by first | omega | (simp; done) | (simp; omega)) _) | (with_reducible refine Below.drew ?_) | (with_reducible refine below_drewN ?_ _)))⟩
theorem fits_neg (r : Rat) (hr : fits r) : fits (-r) := by
  unfold fits at *
  have e1 : fn (-r) = -fn r := rfl
  have e2 : fd (-r) = fd r := rfl
  omega

/-- Two fractions one of which is not valid: what Valid says of them in turn. -/
structure Bad2 (a b c d : Int) (p q : Bool) : Prop where
  one : ∀ w, Calls Try.prog 94 #[.agg #[.int .i64 a, .int .i64 b]] w fun e w' => e = .returned (.bool p) ∧ Below w.heap.size w w'
  two : ∀ w, Calls Try.prog 94 #[.agg #[.int .i64 c, .int .i64 d]] w fun e w' => e = .returned (.bool q) ∧ Below w.heap.size w w'
  no : p = false ∨ (p = true ∧ q = false)
end Go.Proofs.Ytdimmnoflenfhaa
/-
  Layer 5: whether the reference takes a gauge.
-/
namespace Go.Proofs.Ytdimmnoflenfhaa
open Go.RowKit Go.Shelf
set_option linter.unusedVariables false
set_option linter.unusedSimpArgs false

theorem rwithin_any (n lo hi : Int) (w : World) :
    Calls Try.prog 88 #[.int .i64 n, .int .i64 lo, .int .i64 hi] w fun e w' => e = .returned (.bool (decide (lo ≤ n ∧ n ≤ hi))) ∧ Below w.heap.size w w' := by
  by_cases h : lo ≤ n ∧ n ≤ hi
  · rw [decide_eq_true h]; exact (rwithin_yes n lo hi h.1 h.2 w).mono fun e w' k => ⟨k.1, by rw [k.2]; exact Below.refl _ _⟩
  · rw [decide_eq_false h]; exact (rwithin_no n lo hi h w).mono fun e w' k => ⟨k.1, by rw [k.2]; exact Below.refl _ _⟩
instance (a b : Int) : Decidable (smF a b) := inferInstanceAs (Decidable ((_ ∧ _) ∧ _))
end Go.Proofs.Ytdimmnoflenfhaa
/-
  Layer 5, the reference: whether a profile is valid, and what may be asked of it.
-/
namespace Go.Proofs.Ytdimmnoflenfhaa
open Go.RowKit Go.Shelf
set_option linter.unusedVariables false
set_option linter.unusedSimpArgs false

set_option maxHeartbeats 1000000 in
theorem val_all (a : Option Addr) (n c : Nat) (zs : List Int) (hn : n ≤ maxLen) (w : World) (hR : Row w a n (iv zs)) :
    Calls Try.prog 60 #[.slice a n c] w fun e w' => e = .returned (.bool (decide (okP zs))) ∧ Below w.heap.size w w' := by
  by_cases h64 : n ≤ 64
  · exact val_any a n c zs h64 w hR
  · have hx : zs.length = n := by have := hR.1; rwa [iv_length] at this
    rw [decide_eq_false (fun h : okP zs => h64 (by rw [← hx]; exact h.1.2))]
    unfold maxLen at hn
    have hd : decide ((n : Int) < 2) = false := by simp; omega
    have hd2 : decide (64 < (n : Int)) = true := by simp; omega
    clear hx hR
    go_enter Try.func60, Try.ntmps60
    go_wp2
    go_ret
    exact ⟨rfl, by (repeat' (first | (with_reducible exact Below.refl _ _) | (with_reducible assumption) | (with_reducible refine belowThru ?_ (by assumption)) | (with_reducible refine belowAlloc ?_) | (with_reducible refine Below.setCell ?_ (by first | omega | (simp; done) | (simp; omega)) _) | (with_reducible refine Below.drew ?_) | (with_reducible refine below_drewN ?_ _)))⟩
/-- What the reference says to a question about a profile. -/
def asQ (zs : List Int) (t p nz : Int) : Int := if ¬ okP zs then 50 else if ¬ (okT t ∧ inL zs p ∧ okN nz) then 2 else 0
theorem rwy (n lo hi : Int) (h : lo ≤ n) (k : n ≤ hi) (w : World) : Calls Try.prog 88 #[.int .i64 n, .int .i64 lo, .int .i64 hi] w fun e w' => e = .returned (.bool true) ∧ Below w.heap.size w w' := by
  have := rwithin_any n lo hi w; rwa [decide_eq_true ⟨h, k⟩] at this
theorem rwn (n lo hi : Int) (h : ¬ (lo ≤ n ∧ n ≤ hi)) (w : World) : Calls Try.prog 88 #[.int .i64 n, .int .i64 lo, .int .i64 hi] w fun e w' => e = .returned (.bool false) ∧ Below w.heap.size w w' := by
  have := rwithin_any n lo hi w; rwa [decide_eq_false h] at this
set_option maxRecDepth 100000 in
set_option maxHeartbeats 16000000 in
theorem asked_v (a : Option Addr) (n c : Nat) (zs : List Int) (t p nz : Int) (hn : n ≤ maxLen) (w : World) (hR : Row w a n (iv zs)) (HV : Hid (∀ w, Row w a n (iv zs) → Calls Try.prog 60 #[.slice a n c] w fun e w' => e = .returned (.bool false) ∧ Below w.heap.size w w')) :
    Calls Try.prog 52 #[.slice a n c, .int .i64 t, .int .i64 p, .int .i64 nz] w fun e w' => e = .returned (.int .i64 50) ∧ Below w.heap.size w w' := by
  have HR := Lib.hid hR
  clear hR
  unfold maxLen at hn
  have hwn : IntKind.i64.wrap ((n : Int) - 1) = (n : Int) - 1 := IntWalk.i64_in _ (by omega)
  go_enter Try.func52, Try.ntmps52
  go_wp2_with (first
    | (go_at_call 60; (with_reducible refine (HV.out _ HR.out).mono ?_); rintro e w1 ⟨rfl, hb1⟩; clear HV))
  all_goals
    go_ret
    exact ⟨rfl, by (repeat' (first | (with_reducible exact Below.refl _ _) | (with_reducible assumption) | (with_reducible refine belowThru ?_ (by assumption)) | (with_reducible refine belowAlloc ?_) | (with_reducible refine Below.setCell ?_ (by first | omega | (simp; done) | (simp; omega)) _) | (with_reducible refine Below.drew ?_) | (with_reducible refine below_drewN ?_ _)))⟩
set_option maxRecDepth 100000 in
set_option maxHeartbeats 16000000 in
theorem asked_1 (a : Option Addr) (n c : Nat) (zs : List Int) (t p nz : Int) (hn : n ≤ maxLen) (w : World) (hR : Row w a n (iv zs)) (HV : Hid (∀ w, Row w a n (iv zs) → Calls Try.prog 60 #[.slice a n c] w fun e w' => e = .returned (.bool true) ∧ Below w.heap.size w w')) (HW1 : Hid (∀ w, Calls Try.prog 88 #[.int .i64 t, .int .i64 1, .int .i64 255] w fun e w' => e = .returned (.bool false) ∧ Below w.heap.size w w')) :
    Calls Try.prog 52 #[.slice a n c, .int .i64 t, .int .i64 p, .int .i64 nz] w fun e w' => e = .returned (.int .i64 2) ∧ Below w.heap.size w w' := by
  have HR := Lib.hid hR
  clear hR
  unfold maxLen at hn
  have hwn : IntKind.i64.wrap ((n : Int) - 1) = (n : Int) - 1 := IntWalk.i64_in _ (by omega)
  go_enter Try.func52, Try.ntmps52
  go_wp2_with (first
    | (go_at_call 60; (with_reducible refine (HV.out _ HR.out).mono ?_); rintro e w1 ⟨rfl, hb1⟩; clear HV)
    | (go_at_call 88; (with_reducible refine (HW1.out _).mono ?_); rintro e w2 ⟨rfl, hb2⟩; clear HW1))
  all_goals
    go_ret
    exact ⟨rfl, by (repeat' (first | (with_reducible exact Below.refl _ _) | (with_reducible assumption) | (with_reducible refine belowThru ?_ (by assumption)) | (with_reducible refine belowAlloc ?_) | (with_reducible refine Below.setCell ?_ (by first | omega | (simp; done) | (simp; omega)) _) | (with_reducible refine Below.drew ?_) | (with_reducible refine below_drewN ?_ _)))⟩
set_option maxRecDepth 100000 in
set_option maxHeartbeats 16000000 in
theorem asked_2 (a : Option Addr) (n c : Nat) (zs : List Int) (t p nz : Int) (hn : n ≤ maxLen) (w : World) (hR : Row w a n (iv zs)) (HV : Hid (∀ w, Row w a n (iv zs) → Calls Try.prog 60 #[.slice a n c] w fun e w' => e = .returned (.bool true) ∧ Below w.heap.size w w')) (HW1 : Hid (∀ w, Calls Try.prog 88 #[.int .i64 t, .int .i64 1, .int .i64 255] w fun e w' => e = .returned (.bool true) ∧ Below w.heap.size w w')) (HW2 : Hid (∀ w, Calls Try.prog 88 #[.int .i64 p, .int .i64 0, .int .i64 ((n : Int) - 1)] w fun e w' => e = .returned (.bool false) ∧ Below w.heap.size w w')) :
    Calls Try.prog 52 #[.slice a n c, .int .i64 t, .int .i64 p, .int .i64 nz] w fun e w' => e = .returned (.int .i64 2) ∧ Below w.heap.size w w' := by
  have HR := Lib.hid hR
  clear hR
  unfold maxLen at hn
  have hwn : IntKind.i64.wrap ((n : Int) - 1) = (n : Int) - 1 := IntWalk.i64_in _ (by omega)
  go_enter Try.func52, Try.ntmps52
  go_wp2_with (first
    | (go_at_call 60; (with_reducible refine (HV.out _ HR.out).mono ?_); rintro e w1 ⟨rfl, hb1⟩; clear HV)
    | (go_at_call 88; (with_reducible refine (HW1.out _).mono ?_); rintro e w2 ⟨rfl, hb2⟩; clear HW1)
    | (go_at_call 88; (with_reducible refine (HW2.out _).mono ?_); rintro e w3 ⟨rfl, hb3⟩; clear HW2))
  all_goals
    go_ret
    exact ⟨rfl, by (repeat' (first | (with_reducible exact Below.refl _ _) | (with_reducible assumption) | (with_reducible refine belowThru ?_ (by assumption)) | (with_reducible refine belowAlloc ?_) | (with_reducible refine Below.setCell ?_ (by first | omega | (simp; done) | (simp; omega)) _) | (with_reducible refine Below.drew ?_) | (with_reducible refine below_drewN ?_ _)))⟩
set_option maxRecDepth 100000 in
set_option maxHeartbeats 16000000 in
theorem asked_3 (a : Option Addr) (n c : Nat) (zs : List Int) (t p nz : Int) (hn : n ≤ maxLen) (w : World) (hR : Row w a n (iv zs)) (HV : Hid (∀ w, Row w a n (iv zs) → Calls Try.prog 60 #[.slice a n c] w fun e w' => e = .returned (.bool true) ∧ Below w.heap.size w w')) (HW1 : Hid (∀ w, Calls Try.prog 88 #[.int .i64 t, .int .i64 1, .int .i64 255] w fun e w' => e = .returned (.bool true) ∧ Below w.heap.size w w')) (HW2 : Hid (∀ w, Calls Try.prog 88 #[.int .i64 p, .int .i64 0, .int .i64 ((n : Int) - 1)] w fun e w' => e = .returned (.bool true) ∧ Below w.heap.size w w')) (HW3 : Hid (∀ w, Calls Try.prog 88 #[.int .i64 nz, .int .i64 0, .int .i64 64] w fun e w' => e = .returned (.bool false) ∧ Below w.heap.size w w')) :
    Calls Try.prog 52 #[.slice a n c, .int .i64 t, .int .i64 p, .int .i64 nz] w fun e w' => e = .returned (.int .i64 2) ∧ Below w.heap.size w w' := by
  have HR := Lib.hid hR
  clear hR
  unfold maxLen at hn
  have hwn : IntKind.i64.wrap ((n : Int) - 1) = (n : Int) - 1 := IntWalk.i64_in _ (by omega)
  go_enter Try.func52, Try.ntmps52
  go_wp2_with (first
    | (go_at_call 60; (with_reducible refine (HV.out _ HR.out).mono ?_); rintro e w1 ⟨rfl, hb1⟩; clear HV)
    | (go_at_call 88; (with_reducible refine (HW1.out _).mono ?_); rintro e w2 ⟨rfl, hb2⟩; clear HW1)
    | (go_at_call 88; (with_reducible refine (HW2.out _).mono ?_); rintro e w3 ⟨rfl, hb3⟩; clear HW2)
    | (go_at_call 88; (with_reducible refine (HW3.out _).mono ?_); rintro e w4 ⟨rfl, hb4⟩; clear HW3))
  all_goals
    go_ret
    exact ⟨rfl, by (repeat' (first | (with_reducible exact Below.refl _ _) | (with_reducible assumption) | (with_reducible refine belowThru ?_ (by assumption)) | (with_reducible refine belowAlloc ?_) | (with_reducible refine Below.setCell ?_ (by first | omega | (simp; done) | (simp; omega)) _) | (with_reducible refine Below.drew ?_) | (with_reducible refine below_drewN ?_ _)))⟩
set_option maxRecDepth 100000 in
set_option maxHeartbeats 16000000 in
theorem asked_0 (a : Option Addr) (n c : Nat) (zs : List Int) (t p nz : Int) (hn : n ≤ maxLen) (w : World) (hR : Row w a n (iv zs)) (HV : Hid (∀ w, Row w a n (iv zs) → Calls Try.prog 60 #[.slice a n c] w fun e w' => e = .returned (.bool true) ∧ Below w.heap.size w w')) (HW1 : Hid (∀ w, Calls Try.prog 88 #[.int .i64 t, .int .i64 1, .int .i64 255] w fun e w' => e = .returned (.bool true) ∧ Below w.heap.size w w')) (HW2 : Hid (∀ w, Calls Try.prog 88 #[.int .i64 p, .int .i64 0, .int .i64 ((n : Int) - 1)] w fun e w' => e = .returned (.bool true) ∧ Below w.heap.size w w')) (HW3 : Hid (∀ w, Calls Try.prog 88 #[.int .i64 nz, .int .i64 0, .int .i64 64] w fun e w' => e = .returned (.bool true) ∧ Below w.heap.size w w')) :
    Calls Try.prog 52 #[.slice a n c, .int .i64 t, .int .i64 p, .int .i64 nz] w fun e w' => e = .returned (.int .i64 0) ∧ Below w.heap.size w w' := by
  have HR := Lib.hid hR
  clear hR
  unfold maxLen at hn
  have hwn : IntKind.i64.wrap ((n : Int) - 1) = (n : Int) - 1 := IntWalk.i64_in _ (by omega)
  go_enter Try.func52, Try.ntmps52
  go_wp2_with (first
    | (go_at_call 60; (with_reducible refine (HV.out _ HR.out).mono ?_); rintro e w1 ⟨rfl, hb1⟩; clear HV)
    | (go_at_call 88; (with_reducible refine (HW1.out _).mono ?_); rintro e w2 ⟨rfl, hb2⟩; clear HW1)
    | (go_at_call 88; (with_reducible refine (HW2.out _).mono ?_); rintro e w3 ⟨rfl, hb3⟩; clear HW2)
    | (go_at_call 88; (with_reducible refine (HW3.out _).mono ?_); rintro e w4 ⟨rfl, hb4⟩; clear HW3))
  all_goals
    go_ret
    exact ⟨rfl, by (repeat' (first | (with_reducible exact Below.refl _ _) | (with_reducible assumption) | (with_reducible refine belowThru ?_ (by assumption)) | (with_reducible refine belowAlloc ?_) | (with_reducible refine Below.setCell ?_ (by first | omega | (simp; done) | (simp; omega)) _) | (with_reducible refine Below.drew ?_) | (with_reducible refine below_drewN ?_ _)))⟩
theorem asked_any (a : Option Addr) (n c : Nat) (zs : List Int) (t p nz : Int) (hn : n ≤ maxLen) (w : World) (hR : Row w a n (iv zs)) :
    Calls Try.prog 52 #[.slice a n c, .int .i64 t, .int .i64 p, .int .i64 nz] w fun e w' => e = .returned (.int .i64 (asQ zs t p nz)) ∧ Below w.heap.size w w' := by
  have hx : zs.length = n := by have := hR.1; rwa [iv_length] at this
  have V := fun w hR => val_all a n c zs hn w hR
  unfold asQ
  by_cases hz : okP zs
  · rw [if_neg (fun h => h hz)]
    rw [decide_eq_true hz] at V
    by_cases h1 : okT t
    · by_cases h2 : inL zs p
      · have h2' : 0 ≤ p ∧ p ≤ (n : Int) - 1 := by unfold inL at h2; omega
        by_cases h3 : okN nz
        · rw [if_neg (fun h => h ⟨h1, h2, h3⟩)]
          exact asked_0 a n c zs t p nz hn w hR (Lib.hid V) (Lib.hid (rwy t 1 255 h1.1 h1.2)) (Lib.hid (rwy p 0 ((n : Int) - 1) h2'.1 h2'.2)) (Lib.hid (rwy nz 0 64 h3.1 h3.2))
        · rw [if_pos (fun h => h3 h.2.2)]
          exact asked_3 a n c zs t p nz hn w hR (Lib.hid V) (Lib.hid (rwy t 1 255 h1.1 h1.2)) (Lib.hid (rwy p 0 ((n : Int) - 1) h2'.1 h2'.2)) (Lib.hid (rwn nz 0 64 h3))
      · have h2' : ¬ (0 ≤ p ∧ p ≤ (n : Int) - 1) := by unfold inL at h2; omega
        rw [if_pos (fun h => h2 h.2.1)]
        exact asked_2 a n c zs t p nz hn w hR (Lib.hid V) (Lib.hid (rwy t 1 255 h1.1 h1.2)) (Lib.hid (rwn p 0 ((n : Int) - 1) h2'))
    · rw [if_pos (fun h => h1 h.1)]
      exact asked_1 a n c zs t p nz hn w hR (Lib.hid V) (Lib.hid (rwn t 1 255 h1))
  · rw [if_pos hz]
    rw [decide_eq_false hz] at V
    exact asked_v a n c zs t p nz hn w hR (Lib.hid V)
end Go.Proofs.Ytdimmnoflenfhaa
/-
  Layer 5, the reference: a profile with a number added to each value.
-/
namespace Go.Proofs.Ytdimmnoflenfhaa
open Go.RowKit Go.Shelf
set_option linter.unusedVariables false
set_option linter.unusedSimpArgs false

theorem info_tin : (Try.prog.info? 3).map (fun i => (i.zero, i.size, i.bytes)) = some (some (.int .i64 0), 1, 8) := by kernel_rfl
theorem ownsRow_row {w : World} {base : Nat} {v : Value} {zs : List Int} (h : w.ownsRow base 3 1 v zs.length (iv zs)) : ∃ a c, v = .slice a zs.length c ∧ Row w a zs.length (iv zs) := by
  rcases h.2 with ⟨rfl, h0⟩ | ⟨g, cap, cur, rfl, hb, hh, hnc, _, hcs, ht⟩
  · exact ⟨none, 0, by rw [h0], ⟨iv_length zs, fun hn => absurd hn (by omega)⟩⟩
  · refine ⟨_, _, rfl, ⟨iv_length zs, fun hn => ⟨g, 0, rfl, lt_of_block hh, fun j hj => ?_⟩⟩⟩
    have e : w.cell? ⟨g, 0 + j, none⟩ = cur[j]? := by simp [World.cell?, hh]
    rw [e, ← ht, Nat.mul_one, List.getElem?_take_of_lt hj, Array.getElem?_toList]
theorem below_growL {w wr W w3 : World} {v : Value} {n : Nat} {xs : List Value} (hown : wr.ownsRow w.heap.size 3 1 v n xs) (hW : Below w.heap.size w W) (hg : W.grownBy w3 v.ownBlock) : Below w.heap.size w w3 :=
  hW.grown hg hW.size (fun k hk => by have := (hown.lt k hk).1; omega)
theorem own_map {w : World} {base : Nat} {v : Value} {k : Nat} {f : Nat → Int} (h : w.ownsRow base 3 1 v (k + 1) (iv ((List.range k).map f) ++ [.int .i64 (f k)])) : w.ownsRow base 3 1 v (k + 1) (iv ((List.range (k + 1)).map f)) := by
  have e : iv ((List.range (k + 1)).map f) = iv ((List.range k).map f) ++ [.int .i64 (f k)] := by simp [iv, List.range_succ]
  rw [e]; exact h
/-- A list that reads as the numbers for the indices. -/
def RetM (f : Nat → Int) (n : Nat) (w : World) (e : Ending) (w' : World) : Prop :=
  ∃ (v : Option Addr) (c : Nat), e = .returned (.slice v n c) ∧ Row w' v n (iv ((List.range n).map f)) ∧ Below w.heap.size w w'

set_option maxRecDepth 100000 in
set_option maxHeartbeats 4000000 in
theorem rmoved (a : Option Addr) (n c : Nat) (zs : List Int) (y : Int) (hn : n ≤ 64) (hV : V8 zs) (hy : -64 ≤ y ∧ y ≤ 64) (w : World) (hR : Row w a n (iv zs)) :
    Calls Try.prog 57 #[.slice a n c, .int .i64 y] w (RetM (fun k => min 255 (max 0 (zs[k]?.getD 0 + y))) n w) := by
  have HR := Lib.hid hR
  obtain ⟨i0, hi, hz0, hz1, hz2⟩ := info_parts info_tin
  obtain ⟨f, hf⟩ : ∃ f : Nat → Int, (fun k => min 255 (max 0 (zs[k]?.getD 0 + y))) = f := ⟨_, rfl⟩
  have HF : Hid (∀ k, f k = min 255 (max 0 (zs[k]?.getD 0 + y))) := fun k => by rw [← hf]
  rw [hf]
  clear hR hf
  go_enter Try.func57, Try.ntmps57
  go_wp2
  go_loopw [5, 6] (fun v s7 wr => ∃ k : Nat, k ≤ n ∧ s7 = .int .i64 k ∧ wr.ownsRow w.heap.size 3 1 v k (iv ((List.range k).map f)) ∧ Below w.heap.size w wr) (fun _ s7 _ => n - (intOf s7).toNat)
  case atStart => exact ⟨0, Nat.zero_le _, rfl, World.ownsRow_nil _ _ _ _, by (repeat' (first | (with_reducible exact Below.refl _ _) | (with_reducible assumption) | (with_reducible refine belowThru ?_ (by assumption)) | (with_reducible refine belowAlloc ?_) | (with_reducible refine Below.setCell ?_ (by first | omega | (simp; done) | (simp; omega)) _) | (with_reducible refine Below.drew ?_) | (with_reducible refine below_drewN ?_ _)))⟩
  case round =>
    obtain ⟨k, hk, rfl, hown, hB⟩ := hrel
    have p0 : (0 : Int) ≤ (k : Int) := by omega
    by_cases hlt : k < n
    · have p1 : (k : Int) < (n : Int) := by omega
      obtain ⟨bb, oo, z, e1, hbb, hz, cz⟩ := HR.out.int hlt
      cases e1
      have cz := cell_later hB cz
      have hfz : f k = min 255 (max 0 (z + y)) := by rw [HF.out k, hz]; rfl
      have hz8 := hV z (List.mem_of_getElem? hz)
      have w1 : IntKind.i64.wrap (z + y) = z + y := IntWalk.i64_in _ (by omega)
      have hzB := hB.size
      clear hz hz8
      go_wp2_with (at_builtin; refine wpList_append_own _ rfl _ _ 27 rfl w.heap.size 3 i0 (.int .i64 0) 1 8 Try.underlying27 hi hz0 hz1 hz2 rfl (by decide) _ _ _ rfl (hown.alloc _) ⟨wr.heap.size, 0, none⟩ 1 1 [.int .i64 (min 255 (max 0 (z + y)))] rfl rfl (cell_one_new _ _ _) (fun x hx => by simp at hx; subst hx; rfl) (by unfold maxLen; omega) (by omega) (by simp; omega) ?_; intro v' w3 hown' hgrow3 hnil3)
      have hB' := below_growL hown (belowAlloc hB) hgrow3
      rw [← hfz] at hown'
      have HO := Lib.hid (own_map hown')
      clear hown' hgrow3 hnil3 hown
      go_roundw
      case rel => exact ⟨k + 1, hlt, by go_num, HO.out, hB'⟩
      case measure => simp [intOf]; omega
    · obtain rfl : k = n := by omega
      have hln : ((List.range k).map f).length = k := by simp
      obtain ⟨v, e, rfl, hr⟩ := ownsRow_row (zs := (List.range k).map f) (by rw [hln]; exact hown)
      rw [hln] at hr ⊢
      have HQ := Lib.hid hr
      clear hr hown hln
      go_wp2
      go_ret
      exact ⟨v, e, rfl, HQ.out, hB⟩
end Go.Proofs.Ytdimmnoflenfhaa
