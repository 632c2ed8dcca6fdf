/-
  Layer 1: fractions of wide numbers, valid fractions, order.
-/
import Derived.Test.YtcafmmhjlecgpaaFrac
namespace Go.Proofs.Ytcafmmhjlecgpaa
open Go.RowKit

set_option maxHeartbeats 1000000 in
theorem fraction_ok (t b : Int) (w : World) (h0 : -4611686018427387903 ≤ t) (h1 : t ≤ 4611686018427387903) (k0 : -4611686018427387903 ≤ b) (k1 : b ≤ 4611686018427387903) :
    Calls Try.prog 108 #[.agg #[.int .u64 (whi t), .int .u64 (wlo t)], .agg #[.int .u64 (whi b), .int .u64 (wlo b)]] w fun e w' => e = .returned (.tuple #[.agg #[.int .i64 t, .int .i64 b], .int .i64 0]) ∧ Below w.heap.size w w' := by
  go_enter Try.func108, Try.ntmps108
  go_wp2_with (first
    | (go_at_call 123; (with_reducible refine (part_ok t _ h0 h1).mono ?_); rintro e w1 ⟨rfl, hb⟩; obtain ⟨hc, hf⟩ := bcell hb; (try simp only [World.heap_drewN] at hc hf); (try simp only [heap_drew] at hc hf); have hz := hb.size; (try simp at hz); try (have hz0 : w.heap.size < w1.heap.size := by omega); try (have hz1 : w.heap.size + 1 < w1.heap.size := by omega); try (have hz2 : w.heap.size + 1 + 1 < w1.heap.size := by omega); try (have hz3 : w.heap.size + 1 + 1 + 1 < w1.heap.size := by omega); try (have hz4 : w.heap.size + 1 + 1 + 1 + 1 < w1.heap.size := by omega); try (have hz5 : w.heap.size + 1 + 1 + 1 + 1 + 1 < w1.heap.size := by omega))
    | (go_at_call 123; (with_reducible refine (part_ok b _ k0 k1).mono ?_); rintro e w1 ⟨rfl, hb⟩; obtain ⟨hc, hf⟩ := bcell hb; (try simp only [World.heap_drewN] at hc hf); (try simp only [heap_drew] at hc hf); have hz := hb.size; (try simp at hz); try (have hz0 : w.heap.size < w1.heap.size := by omega); try (have hz1 : w.heap.size + 1 < w1.heap.size := by omega); try (have hz2 : w.heap.size + 1 + 1 < w1.heap.size := by omega); try (have hz3 : w.heap.size + 1 + 1 + 1 < w1.heap.size := by omega); try (have hz4 : w.heap.size + 1 + 1 + 1 + 1 < w1.heap.size := by omega); try (have hz5 : w.heap.size + 1 + 1 + 1 + 1 + 1 < w1.heap.size := by omega)))
  exact bodyPost_ret (v := .tuple #[.agg #[.int .i64 t, .int .i64 b], .int .i64 0]) (by simp only [results, Try.results108]; go_simp) rfl ⟨rfl, by (repeat' (first | (with_reducible exact Below.refl _ _) | (with_reducible assumption) | (with_reducible refine belowThru ?_ (by assumption)) | (with_reducible refine belowAlloc ?_) | (with_reducible refine Below.setCell ?_ (by first | omega | (simp; done) | (simp; omega)) _) | (with_reducible refine Below.drew ?_) | (with_reducible refine below_drewN ?_ _)))⟩

set_option maxHeartbeats 1000000 in
theorem fraction_no (t b x y : Int) (p q : Bool) (w : World)
    (HT : Hid (∀ w, Calls Try.prog 123 #[.agg #[.int .u64 (whi t), .int .u64 (wlo t)]] w fun e w' => e = .returned (.tuple #[.int .i64 x, .bool p]) ∧ Below w.heap.size w w'))
    (HB : Hid (∀ w, Calls Try.prog 123 #[.agg #[.int .u64 (whi b), .int .u64 (wlo b)]] w fun e w' => e = .returned (.tuple #[.int .i64 y, .bool q]) ∧ Below w.heap.size w w'))
    (hpq : (p && q) = false) :
    Calls Try.prog 108 #[.agg #[.int .u64 (whi t), .int .u64 (wlo t)], .agg #[.int .u64 (whi b), .int .u64 (wlo b)]] w fun e w' => e = .returned (.tuple #[.agg #[.int .i64 0, .int .i64 0], .int .i64 4]) ∧ Below w.heap.size w w' := by
  cases p <;> cases q <;> first
    | (exfalso; revert hpq; decide)
    | (clear hpq
       go_enter Try.func108, Try.ntmps108
       go_wp2_with (first
         | (go_at_call 123; (with_reducible refine (HT.out _).mono ?_); rintro e w1 ⟨rfl, hb⟩; obtain ⟨hc, hf⟩ := bcell hb; (try simp only [World.heap_drewN] at hc hf); (try simp only [heap_drew] at hc hf); have hz := hb.size; (try simp at hz); try (have hz0 : w.heap.size < w1.heap.size := by omega); try (have hz1 : w.heap.size + 1 < w1.heap.size := by omega); try (have hz2 : w.heap.size + 1 + 1 < w1.heap.size := by omega); try (have hz3 : w.heap.size + 1 + 1 + 1 < w1.heap.size := by omega); try (have hz4 : w.heap.size + 1 + 1 + 1 + 1 < w1.heap.size := by omega); try (have hz5 : w.heap.size + 1 + 1 + 1 + 1 + 1 < w1.heap.size := by omega))
         | (go_at_call 123; (with_reducible refine (HB.out _).mono ?_); rintro e w1 ⟨rfl, hb⟩; obtain ⟨hc, hf⟩ := bcell hb; (try simp only [World.heap_drewN] at hc hf); (try simp only [heap_drew] at hc hf); have hz := hb.size; (try simp at hz); try (have hz0 : w.heap.size < w1.heap.size := by omega); try (have hz1 : w.heap.size + 1 < w1.heap.size := by omega); try (have hz2 : w.heap.size + 1 + 1 < w1.heap.size := by omega); try (have hz3 : w.heap.size + 1 + 1 + 1 < w1.heap.size := by omega); try (have hz4 : w.heap.size + 1 + 1 + 1 + 1 < w1.heap.size := by omega); try (have hz5 : w.heap.size + 1 + 1 + 1 + 1 + 1 < w1.heap.size := by omega)))
       exact bodyPost_ret (v := .tuple #[.agg #[.int .i64 0, .int .i64 0], .int .i64 4]) (by simp only [results, Try.results108]; go_simp) rfl ⟨rfl, by (repeat' (first | (with_reducible exact Below.refl _ _) | (with_reducible assumption) | (with_reducible refine belowThru ?_ (by assumption)) | (with_reducible refine belowAlloc ?_) | (with_reducible refine Below.setCell ?_ (by first | omega | (simp; done) | (simp; omega)) _) | (with_reducible refine Below.drew ?_) | (with_reducible refine below_drewN ?_ _)))⟩)

/-- The fraction of a top and a bottom, if both are parts. -/
def fr (t b z : Int) : Int := if (-4611686018427387903 ≤ t ∧ t ≤ 4611686018427387903) ∧ -4611686018427387903 ≤ b ∧ b ≤ 4611686018427387903 then z else 0
theorem fraction_any (t b : Int) (w : World) (h0 : -170141183460469231731687303715884105728 < t) (h1 : t < 170141183460469231731687303715884105728) (k0 : -170141183460469231731687303715884105728 < b) (k1 : b < 170141183460469231731687303715884105728) :
    Calls Try.prog 108 #[.agg #[.int .u64 (whi t), .int .u64 (wlo t)], .agg #[.int .u64 (whi b), .int .u64 (wlo b)]] w fun e w' => e = .returned (.tuple #[.agg #[.int .i64 (fr t b t), .int .i64 (fr t b b)], .int .i64 (4 - fr t b 4)]) ∧ Below w.heap.size w w' := by
  unfold fr
  by_cases ht : -4611686018427387903 ≤ t ∧ t ≤ 4611686018427387903 <;> by_cases hb : -4611686018427387903 ≤ b ∧ b ≤ 4611686018427387903
  · rw [if_pos ⟨ht, hb⟩, if_pos ⟨ht, hb⟩, if_pos ⟨ht, hb⟩]; exact fraction_ok t b w ht.1 ht.2 hb.1 hb.2
  · rw [if_neg (fun h => hb h.2), if_neg (fun h => hb h.2), if_neg (fun h => hb h.2)]
    exact fraction_no t b _ _ true false w (fun w => part_ok t w ht.1 ht.2) (fun w => part_no b w (by omega) k0 k1) rfl
  · rw [if_neg (fun h => ht h.1), if_neg (fun h => ht h.1), if_neg (fun h => ht h.1)]
    exact fraction_no t b _ _ false true w (fun w => part_no t w (by omega) h0 h1) (fun w => part_ok b w hb.1 hb.2) rfl
  · rw [if_neg (fun h => ht h.1), if_neg (fun h => ht h.1), if_neg (fun h => ht h.1)]
    exact fraction_no t b _ _ false false w (fun w => part_no t w (by omega) h0 h1) (fun w => part_no b w (by omega) k0 k1) rfl
/-- At the parts of a rational number: what a call returns for it. -/
theorem fraction_q (x : Rat) (t b : Int) (ht : t = fn x) (hb : b = fd x) (w : World) (h0 : -170141183460469231731687303715884105728 < t) (h1 : t < 170141183460469231731687303715884105728) (k1 : b < 170141183460469231731687303715884105728) :
    Calls Try.prog 108 #[.agg #[.int .u64 (whi t), .int .u64 (wlo t)], .agg #[.int .u64 (whi b), .int .u64 (wlo b)]] w fun e w' => e = .returned (.tuple #[.agg #[.int .i64 (rn x), .int .i64 (rd x)], .int .i64 (re x)]) ∧ Below w.heap.size w w' := by
  have := fd_pos x
  have key := fraction_any t b w h0 h1 (by omega) k1
  have e : ∀ z, fr t b z = if fits x then z else 0 := by
    intro z; unfold fr; rw [ht, hb]
    by_cases h : fits x
    · rw [if_pos h, if_pos (by have k := h; unfold fits at k; omega)]
    · rw [if_neg h, if_neg (fun k => h ⟨by omega, by omega, by omega⟩)]
  rw [e, e, e] at key
  unfold rn rd re
  by_cases h : fits x
  · rw [if_pos h, if_pos h, if_pos h] at key ⊢; rw [← ht, ← hb]; exact key
  · rw [if_neg h, if_neg h, if_neg h] at key ⊢; exact key

set_option maxHeartbeats 1000000 in
theorem check_in (a b g c : Int) (w : World) (h1 : 1 ≤ b) (h2 : b ≤ 4611686018427387903) (h3 : -4611686018427387903 ≤ a) (h4 : a ≤ 4611686018427387903) (hg : Hid (gcdI (mag a) b = g)) (hc : Hid (c = if g = 1 then 0 else 8)) :
    Calls Try.prog 76 #[.agg #[.int .i64 a, .int .i64 b]] w fun e w' => e = .returned (.int .i64 c) ∧ Below w.heap.size w w' := by
  have m0 := mag_lo a; have m1 := mag_le a (by omega) (by omega)
  have HB : Hid (∀ w, Calls Try.prog 106 #[.int .i64 b] w fun e w' => e = .returned (.int .u64 b) ∧ w' = w) := by
    intro w; have := size_any b (by omega) (by omega) w; rw [mag_pos b (by omega)] at this; exact this.mono fun _ _ ⟨h, k⟩ => ⟨h, k.symm⟩
  have HA : Hid (∀ w, Calls Try.prog 106 #[.int .i64 a] w fun e w' => e = .returned (.int .u64 (mag a)) ∧ w' = w) := by
    intro w; exact (size_any a (by omega) (by omega) w).mono fun _ _ ⟨h, k⟩ => ⟨h, k.symm⟩
  have HG : Hid (∀ w, Calls Try.prog 105 #[.int .u64 (mag a), .int .u64 b] w fun e w' => e = .returned (.int .u64 g) ∧ ∃ n, w' = w.drewN n) := by
    intro w; have := divisor_any (mag a) b (by omega) (by omega) (by omega) (by omega) w; rw [hg.out] at this; exact this
  rcases (show g = 1 ∨ g ≠ 1 by omega) with h | h
  · have hcc := hc.out
    rw [if_pos h] at hcc
    subst hcc
    have hd : (g != 1) = false := by simpa using h
    clear h hc
    go_enter Try.func76, Try.ntmps76
    go_wp2
    go_quiet ((first
      | (go_at_call 106; (with_reducible refine Calls.quiet_of_same (HA.out _)))
      | (go_at_call 106; (with_reducible refine Calls.quiet_of_same (HB.out _)))
      | (go_at_call 105; (with_reducible refine Calls.quiet_of (HG.out _)))))
    go_wp2
    go_ret
    exact ⟨rfl, by (repeat' (first | (with_reducible exact Below.refl _ _) | (with_reducible assumption) | (with_reducible refine belowThru ?_ (by assumption)) | (with_reducible refine belowAlloc ?_) | (with_reducible refine Below.setCell ?_ (by first | omega | (simp; done) | (simp; omega)) _) | (with_reducible refine Below.drew ?_) | (with_reducible refine below_drewN ?_ _)))⟩
  · have hcc := hc.out
    rw [if_neg h] at hcc
    subst hcc
    have hd : (g != 1) = true := by simpa using h
    clear h hc
    go_enter Try.func76, Try.ntmps76
    go_wp2
    go_quiet ((first
      | (go_at_call 106; (with_reducible refine Calls.quiet_of_same (HA.out _)))
      | (go_at_call 106; (with_reducible refine Calls.quiet_of_same (HB.out _)))
      | (go_at_call 105; (with_reducible refine Calls.quiet_of (HG.out _)))))
    go_wp2
    go_ret
    exact ⟨rfl, by (repeat' (first | (with_reducible exact Below.refl _ _) | (with_reducible assumption) | (with_reducible refine belowThru ?_ (by assumption)) | (with_reducible refine belowAlloc ?_) | (with_reducible refine Below.setCell ?_ (by first | omega | (simp; done) | (simp; omega)) _) | (with_reducible refine Below.drew ?_) | (with_reducible refine below_drewN ?_ _)))⟩

set_option maxHeartbeats 1000000 in
theorem check_out (a b : Int) (w : World) (h : b < 1 ∨ 4611686018427387903 < b ∨ a < -4611686018427387903 ∨ 4611686018427387903 < a) :
    Calls Try.prog 76 #[.agg #[.int .i64 a, .int .i64 b]] w fun e w' => e = .returned (.int .i64 8) ∧ Below w.heap.size w w' := by
  by_cases h1 : b < 1 <;> by_cases h2 : 4611686018427387903 < b <;> by_cases h3 : a < -4611686018427387903 <;> by_cases h4 : 4611686018427387903 < a <;> first
    | (exfalso; omega)
    | (clear h
       go_enter Try.func76, Try.ntmps76
       go_wp2
       go_ret
       exact ⟨rfl, by (repeat' (first | (with_reducible exact Below.refl _ _) | (with_reducible assumption) | (with_reducible refine belowThru ?_ (by assumption)) | (with_reducible refine belowAlloc ?_) | (with_reducible refine Below.setCell ?_ (by first | omega | (simp; done) | (simp; omega)) _) | (with_reducible refine Below.drew ?_) | (with_reducible refine below_drewN ?_ _)))⟩)

/-- 0, or the error of a fraction that is not valid. -/
def ck (a b : Int) : Int := if okF a b then 0 else 8
theorem check_any (a b : Int) (w : World) :
    Calls Try.prog 76 #[.agg #[.int .i64 a, .int .i64 b]] w fun e w' => e = .returned (.int .i64 (ck a b)) ∧ Below w.heap.size w w' := by
  by_cases h : b < 1 ∨ 4611686018427387903 < b ∨ a < -4611686018427387903 ∨ 4611686018427387903 < a
  · have : ck a b = 8 := if_neg (by rintro ⟨h1, h2, h3, h4, -⟩; omega)
    rw [this]; exact check_out a b w h
  · refine check_in a b _ _ w (by omega) (by omega) (by omega) (by omega) rfl ?_
    show ck a b = _
    have e : gcdI (mag a) b = gcdI a b := by
      unfold gcdI; rw [mag_natAbs, Int.gcd_eq_natAbs_gcd_natAbs, Int.gcd_eq_natAbs_gcd_natAbs, Int.natAbs_natCast]
    rw [e]
    unfold ck
    by_cases k : gcdI a b = 1
    · rw [if_pos k, if_pos (show okF a b from ⟨by omega, by omega, by omega, by omega, k⟩)]
    · rw [if_neg k, if_neg (fun x : okF a b => k x.2.2.2.2)]
end Go.Proofs.Ytcafmmhjlecgpaa
