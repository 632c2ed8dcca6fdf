/-
  Layer 1: the methods of wide.
-/
import Derived.Test.YtcafmmhjlecgpaaProg
import Derived.Test.YtcafmmhjlecgpaaWMath
import Derived.Test.YtcafmmhjlecgpaaBlk
import Derived.WalkKit
import Derived.WalkSpells
import Derived.WalkLawsBesides
import Derived.Shelf.Spec.BitsCarry
import Derived.Test.YtcafmmhjlecgpaaShelf
import Derived.Lib.Hide
import Derived.WalkSmall
namespace Go.Proofs.Ytcafmmhjlecgpaa
open Go.RowKit

theorem bcell {W w1 : World} (hb : Below W.heap.size W w1) : (∀ b o, b < W.heap.size → w1.cell? ⟨b, o, none⟩ = W.cell? ⟨b, o, none⟩) ∧ (∀ b o, b < W.heap.size → w1.frozen? ⟨b, o, none⟩ = W.frozen? ⟨b, o, none⟩) :=
  ⟨fun b o h => hb.cell (p := ⟨b, o, none⟩) h, fun b o h => hb.frozen (p := ⟨b, o, none⟩) h⟩

theorem bsize {W w1 : World} (hb : Below W.heap.size W w1) : (∀ k, k < W.heap.size → k < w1.heap.size) ∧ (∀ k, k < W.heap.size → k ≤ w1.heap.size) :=
  ⟨fun _ h => Nat.lt_of_lt_of_le h hb.size, fun _ h => Nat.le_of_lt (Nat.lt_of_lt_of_le h hb.size)⟩

theorem cell_alloc {w : World} {o : Obj} {a : Addr} {v : Value} (h : w.cell? a = some v) : (w.alloc o).cell? a = some v :=
  (World.cell?_alloc_lt _ _ _ (World.block_lt_of_cell? _ _ h)).trans h

theorem add64_run (x y c : Int) (hx : 0 ≤ x) (hy : 0 ≤ y) (hc0 : 0 ≤ c) (hc : c ≤ 1) (w : World) :
    (callFunc 136 #[.int .u64 x, .int .u64 y, .int .u64 c]).run Try.prog w = .ok (.value (.tuple #[.int .u64 ((x + y + c) % 18446744073709551616), .int .u64 ((x + y + c) / 18446744073709551616)])) w := by
  rw [run_callFunc_extern Try.func136 (by kernel_rfl) (by kernel_rfl) (by kernel_rfl) (e := add64Entry) (by kernel_rfl), run_add64 x y c hx hy hc0 hc]
  rfl
theorem add64_lo (a b : Int) (w : World) :
    (callFunc 136 #[.int .u64 (wlo a), .int .u64 (wlo b), .int .u64 0]).run Try.prog w = .ok (.value (.tuple #[.int .u64 (wlo (a + b)), .int .u64 (car a b)])) w := by
  rw [add64_run _ _ _ (wlo_lo a) (wlo_lo b) (by omega) (by omega), wlo_add, car_add]
theorem add64_hi (a b : Int) (w : World) :
    (callFunc 136 #[.int .u64 (whi a), .int .u64 (whi b), .int .u64 (car a b)]).run Try.prog w = .ok (.value (.tuple #[.int .u64 (whi (a + b)), .int .u64 (car2 a b)])) w := by
  rw [add64_run _ _ _ (whi_lo a) (whi_lo b) (car_lo a b) (car_hi a b), whi_add, car2_add]

theorem sub64_run (x y b : Int) (hx : 0 ≤ x) (hy : 0 ≤ y) (hy1 : y ≤ 18446744073709551615) (hb0 : 0 ≤ b) (hb : b ≤ 1) (w : World) :
    (callFunc 122 #[.int .u64 x, .int .u64 y, .int .u64 b]).run Try.prog w = .ok (.value (.tuple #[.int .u64 ((x + 18446744073709551616 - y - b) % 18446744073709551616), .int .u64 (if x < y + b then 1 else 0)])) w := by
  obtain ⟨X, rfl⟩ := Int.eq_ofNat_of_zero_le hx
  obtain ⟨Y, rfl⟩ := Int.eq_ofNat_of_zero_le hy
  obtain ⟨C, rfl⟩ := Int.eq_ofNat_of_zero_le hb0
  rw [run_callFunc_extern Try.func122 (by kernel_rfl) (by kernel_rfl) (by kernel_rfl) (e := sub64Entry) (by kernel_rfl), run_sub64 X Y C (by omega)]
  have e1 : (((X + 18446744073709551616 - Y - C) % 18446744073709551616 : Nat) : Int) = ((X : Int) + 18446744073709551616 - Y - C) % 18446744073709551616 := by omega
  have e2 : ((if X < Y + C then 1 else 0 : Nat) : Int) = if (X : Int) < Y + C then 1 else 0 := by
    by_cases h : X < Y + C
    · rw [if_pos h, if_pos (by omega)]; rfl
    · rw [if_neg h, if_neg (by omega)]; rfl
  rw [e1, e2]
  rfl
theorem sub64_lo (a b : Int) (w : World) :
    (callFunc 122 #[.int .u64 (wlo a), .int .u64 (wlo b), .int .u64 0]).run Try.prog w = .ok (.value (.tuple #[.int .u64 (wlo (a - b)), .int .u64 (bor a b)])) w := by
  rw [sub64_run _ _ _ (wlo_lo a) (wlo_lo b) (wlo_hi b) (by omega) (by omega), wlo_sub, Int.sub_zero]
  unfold bor
  rw [Int.add_zero]
theorem sub64_hi (a b : Int) (w : World) :
    (callFunc 122 #[.int .u64 (whi a), .int .u64 (whi b), .int .u64 (bor a b)]).run Try.prog w = .ok (.value (.tuple #[.int .u64 (whi (a - b)), .int .u64 (bor2 a b)])) w := by
  rw [sub64_run _ _ _ (whi_lo a) (whi_lo b) (whi_hi b) (bor_lo a b) (bor_hi a b), whi_sub]
  rfl

set_option maxHeartbeats 400000 in
theorem minus_any (a b : Int) (w : World) :
    Calls Try.prog 103 #[.agg #[.int .u64 (whi a), .int .u64 (wlo a)], .agg #[.int .u64 (whi b), .int .u64 (wlo b)]] w fun e w' => e = .returned (.agg #[.int .u64 (whi (a - b)), .int .u64 (wlo (a - b))]) ∧ Below w.heap.size w w' := by
  go_enter Try.func103, Try.ntmps103
  go_wp2_with (first | simp only [sub64_lo] | simp only [sub64_hi])
  exact bodyPost_ret (v := .agg #[.int .u64 (whi (a - b)), .int .u64 (wlo (a - b))]) (by simp only [results, Try.results103]; go_simp) rfl ⟨rfl, by (repeat' (first | (with_reducible exact Below.refl _ _) | (with_reducible assumption) | (with_reducible refine belowThru ?_ (by assumption)) | (with_reducible refine belowAlloc ?_) | (with_reducible refine Below.setCell ?_ (by first | omega | (simp; done) | (simp; omega)) _) | (with_reducible refine Below.drew ?_) | (with_reducible refine below_drewN ?_ _)))⟩

theorem minus_zero (b : Int) (w : World) :
    Calls Try.prog 103 #[.agg #[.int .u64 0, .int .u64 0], .agg #[.int .u64 (whi b), .int .u64 (wlo b)]] w fun e w' => e = .returned (.agg #[.int .u64 (whi (-b)), .int .u64 (wlo (-b))]) ∧ Below w.heap.size w w' := by
  have h := minus_any 0 b w
  rw [Int.zero_sub] at h
  exact h

set_option maxHeartbeats 400000 in
theorem opposite_any (b : Int) (w : World) :
    Calls Try.prog 107 #[.agg #[.int .u64 (whi b), .int .u64 (wlo b)]] w fun e w' => e = .returned (.agg #[.int .u64 (whi (-b)), .int .u64 (wlo (-b))]) ∧ Below w.heap.size w w' := by
  go_enter Try.func107, Try.ntmps107
  go_wp2_with (go_at_call 103; refine (minus_zero b _).mono ?_; rintro e w1 ⟨rfl, hb⟩; obtain ⟨hc, hf⟩ := bcell hb; (try simp only [World.heap_drewN] at hc hf); (try simp only [heap_drew] at hc hf); have hz := hb.size; (try simp at hz); try (have hz0 : w.heap.size < w1.heap.size := by omega); try (have hz1 : w.heap.size + 1 < w1.heap.size := by omega); try (have hz2 : w.heap.size + 1 + 1 < w1.heap.size := by omega); try (have hz3 : w.heap.size + 1 + 1 + 1 < w1.heap.size := by omega); try (have hz4 : w.heap.size + 1 + 1 + 1 + 1 < w1.heap.size := by omega); try (have hz5 : w.heap.size + 1 + 1 + 1 + 1 + 1 < w1.heap.size := by omega))
  exact bodyPost_ret (v := .agg #[.int .u64 (whi (-b)), .int .u64 (wlo (-b))]) (by simp only [results, Try.results107]; go_simp) rfl ⟨rfl, by (repeat' (first | (with_reducible exact Below.refl _ _) | (with_reducible assumption) | (with_reducible refine belowThru ?_ (by assumption)) | (with_reducible refine belowAlloc ?_) | (with_reducible refine Below.setCell ?_ (by first | omega | (simp; done) | (simp; omega)) _) | (with_reducible refine Below.drew ?_) | (with_reducible refine below_drewN ?_ _)))⟩

set_option maxHeartbeats 400000 in
theorem sign_neg (z : Int) (w : World) (h1 : 9223372036854775808 ≤ whi z) (h2 : whi z ≤ 18446744073709551615) :
    Calls Try.prog 104 #[.agg #[.int .u64 (whi z), .int .u64 (wlo z)]] w fun e w' => e = .returned (.int .i64 (-1)) ∧ Below w.heap.size w w' := by
  go_enter Try.func104, Try.ntmps104
  go_wp2
  go_ret
  exact ⟨rfl, by (repeat' (first | (with_reducible exact Below.refl _ _) | (with_reducible assumption) | (with_reducible refine belowThru ?_ (by assumption)) | (with_reducible refine belowAlloc ?_) | (with_reducible refine Below.setCell ?_ (by first | omega | (simp; done) | (simp; omega)) _) | (with_reducible refine Below.drew ?_) | (with_reducible refine below_drewN ?_ _)))⟩

set_option maxHeartbeats 400000 in
theorem sign_pos (z : Int) (w : World) (h0 : ¬ (whi z = 0 ∧ wlo z = 0)) (h1 : 0 ≤ whi z) (h2 : whi z < 9223372036854775808) :
    Calls Try.prog 104 #[.agg #[.int .u64 (whi z), .int .u64 (wlo z)]] w fun e w' => e = .returned (.int .i64 1) ∧ Below w.heap.size w w' := by
  go_enter Try.func104, Try.ntmps104
  go_wp2
  all_goals (go_ret; exact ⟨rfl, by (repeat' (first | (with_reducible exact Below.refl _ _) | (with_reducible assumption) | (with_reducible refine belowThru ?_ (by assumption)) | (with_reducible refine belowAlloc ?_) | (with_reducible refine Below.setCell ?_ (by first | omega | (simp; done) | (simp; omega)) _) | (with_reducible refine Below.drew ?_) | (with_reducible refine below_drewN ?_ _)))⟩)

set_option maxHeartbeats 400000 in
theorem sign_zero (w : World) :
    Calls Try.prog 104 #[.agg #[.int .u64 0, .int .u64 0]] w fun e w' => e = .returned (.int .i64 0) ∧ Below w.heap.size w w' := by
  go_enter Try.func104, Try.ntmps104
  go_wp2
  all_goals (go_ret; exact ⟨rfl, by (repeat' (first | (with_reducible exact Below.refl _ _) | (with_reducible assumption) | (with_reducible refine belowThru ?_ (by assumption)) | (with_reducible refine belowAlloc ?_) | (with_reducible refine Below.setCell ?_ (by first | omega | (simp; done) | (simp; omega)) _) | (with_reducible refine Below.drew ?_) | (with_reducible refine below_drewN ?_ _)))⟩)

theorem sign_any (z : Int) (h0 : -170141183460469231731687303715884105728 ≤ z) (h1 : z < 170141183460469231731687303715884105728) (w : World) :
    Calls Try.prog 104 #[.agg #[.int .u64 (whi z), .int .u64 (wlo z)]] w fun e w' => e = .returned (.int .i64 z.sign) ∧ Below w.heap.size w w' := by
  have a := neg_of z h0 h1
  have b := zero_of z h0 h1
  have c := whi_lo z
  have d := whi_hi z
  rcases Int.lt_trichotomy z 0 with h | h | h
  · rw [zsign_neg z h]; exact sign_neg z w (a.2 h) d
  · subst h; exact sign_zero w
  · rw [zsign_pos z h]; exact sign_pos z w (by omega) c (by omega)

set_option maxHeartbeats 400000 in
theorem size_any (n : Int) (h1 : -9223372036854775808 ≤ n) (h2 : n ≤ 9223372036854775807) (w : World) :
    Calls Try.prog 106 #[.int .i64 n] w fun e w' => e = .returned (.int .u64 (mag n)) ∧ w = w' := by
  rcases (show n < 0 ∨ 0 ≤ n by omega) with h | h
  · go_enter Try.func106, Try.ntmps106
    go_wp2
    go_ret
    refine ⟨?_, rfl⟩
    rw [mag_neg n h, IntKind.wrap_u64, IntKind.wrap_u64, show (-(n % 18446744073709551616)) % 18446744073709551616 = -n by omega]
    rfl
  · go_enter Try.func106, Try.ntmps106
    go_wp2
    go_ret
    refine ⟨?_, rfl⟩
    rw [mag_pos n h]
    rfl

theorem mul64_mag (x y p : Int) (hx0 : 0 ≤ x) (hx : x ≤ 9223372036854775808) (hy0 : 0 ≤ y) (hy : y ≤ 9223372036854775808) (hp : x * y = p) (w : World) :
    Calls Try.prog 121 #[.int .u64 x, .int .u64 y] w fun e w' => e = .returned (.tuple #[.int .u64 (whi p), .int .u64 (wlo p)]) ∧ w = w' := by
  obtain ⟨hp0, hp1⟩ := mag_mul_bound x y hx0 hx hy0 hy
  obtain ⟨X, rfl⟩ := Int.eq_ofNat_of_zero_le hx0
  obtain ⟨Y, rfl⟩ := Int.eq_ofNat_of_zero_le hy0
  refine (Try.bits_Mul64 X Y (by omega) (by omega) w).mono fun e w' ⟨he, hw⟩ => ⟨?_, hw.symm⟩
  rw [he]
  rw [hp] at hp0 hp1
  have e0 : ((X * Y : Nat) : Int) = p := by rw [← hp, Int.natCast_mul]
  have e1 : ((X * Y / 18446744073709551616 : Nat) : Int) = whi p := by unfold whi B64; omega
  have e2 : ((X * Y % 18446744073709551616 : Nat) : Int) = wlo p := by unfold wlo B64; omega
  rw [e1, e2]

set_option maxHeartbeats 400000 in
theorem product_same (x y p : Int) (h1 : -9223372036854775808 ≤ x) (h2 : x ≤ 9223372036854775807) (h3 : -9223372036854775808 ≤ y) (h4 : y ≤ 9223372036854775807)
    (hs : (!(decide (x < 0) == decide (y < 0))) = false) (hp : Hid (mag x * mag y = p)) (w : World) :
    Calls Try.prog 102 #[.int .i64 x, .int .i64 y] w fun e w' => e = .returned (.agg #[.int .u64 (whi p), .int .u64 (wlo p)]) ∧ Below w.heap.size w w' := by
  have a0 := mag_lo x; have a1 := mag_le x h1 h2; have b0 := mag_lo y; have b1 := mag_le y h3 h4
  go_enter Try.func102, Try.ntmps102
  go_wp2_with (first
    | (go_at_call 106; refine (size_any _ (by omega) (by omega) _).mono ?_; rintro e w1 ⟨rfl, rfl⟩)
    | (go_at_call 121; refine (mul64_mag _ _ p (by omega) (by omega) (by omega) (by omega) hp.out _).mono ?_; rintro e w1 ⟨rfl, rfl⟩))
  exact bodyPost_ret (v := .agg #[.int .u64 (whi p), .int .u64 (wlo p)]) (by simp only [results, Try.results102]; go_simp) rfl ⟨rfl, by (repeat' (first | (with_reducible exact Below.refl _ _) | (with_reducible assumption) | (with_reducible refine belowThru ?_ (by assumption)) | (with_reducible refine belowAlloc ?_) | (with_reducible refine Below.setCell ?_ (by first | omega | (simp; done) | (simp; omega)) _) | (with_reducible refine Below.drew ?_) | (with_reducible refine below_drewN ?_ _)))⟩

set_option maxHeartbeats 400000 in
theorem product_other (x y p q : Int) (h1 : -9223372036854775808 ≤ x) (h2 : x ≤ 9223372036854775807) (h3 : -9223372036854775808 ≤ y) (h4 : y ≤ 9223372036854775807)
    (hs : (!(decide (x < 0) == decide (y < 0))) = true) (hp : Hid (mag x * mag y = p)) (hq : Hid (-p = q)) (w : World) :
    Calls Try.prog 102 #[.int .i64 x, .int .i64 y] w fun e w' => e = .returned (.agg #[.int .u64 (whi q), .int .u64 (wlo q)]) ∧ Below w.heap.size w w' := by
  have a0 := mag_lo x; have a1 := mag_le x h1 h2; have b0 := mag_lo y; have b1 := mag_le y h3 h4
  have ho : ∀ w, Calls Try.prog 107 #[.agg #[.int .u64 (whi p), .int .u64 (wlo p)]] w fun e w' => e = .returned (.agg #[.int .u64 (whi q), .int .u64 (wlo q)]) ∧ Below w.heap.size w w' := by
    intro w; have := opposite_any p w; rw [hq.out] at this; exact this
  have HO := Lib.hid ho; clear ho
  go_enter Try.func102, Try.ntmps102
  have l2 : ∀ k : Nat, k < k + 1 + 1 := fun _ => (by omega); have l3 : ∀ k : Nat, k < k + 1 + 1 + 1 := fun _ => (by omega); have l4 : ∀ k : Nat, k < k + 1 + 1 + 1 + 1 := fun _ => (by omega)
  go_wp2_with (first
    | (go_at_call 106; refine (size_any _ (by omega) (by omega) _).mono ?_; rintro e w1 ⟨rfl, rfl⟩)
    | (go_at_call 121; refine (mul64_mag _ _ p (by omega) (by omega) (by omega) (by omega) hp.out _).mono ?_; rintro e w1 ⟨rfl, rfl⟩)
    | (go_at_call 107; refine (HO.out _).mono ?_; rintro e w1 ⟨rfl, hb⟩; obtain ⟨hc, hf⟩ := bcell hb; (try simp only [World.heap_drewN] at hc hf); (try simp only [heap_drew] at hc hf); have hz := hb.size; (try simp at hz); try (have hz0 : w.heap.size < w1.heap.size := by omega); try (have hz1 : w.heap.size + 1 < w1.heap.size := by omega); try (have hz2 : w.heap.size + 1 + 1 < w1.heap.size := by omega); try (have hz3 : w.heap.size + 1 + 1 + 1 < w1.heap.size := by omega); try (have hz4 : w.heap.size + 1 + 1 + 1 + 1 < w1.heap.size := by omega); try (have hz5 : w.heap.size + 1 + 1 + 1 + 1 + 1 < w1.heap.size := by omega)))
  exact bodyPost_ret (v := .agg #[.int .u64 (whi q), .int .u64 (wlo q)]) (by simp only [results, Try.results102]; go_simp) rfl ⟨rfl, by (repeat' (first | (with_reducible exact Below.refl _ _) | (with_reducible assumption) | (with_reducible refine belowThru ?_ (by assumption)) | (with_reducible refine belowAlloc ?_) | (with_reducible refine Below.setCell ?_ (by first | omega | (simp; done) | (simp; omega)) _) | (with_reducible refine Below.drew ?_) | (with_reducible refine below_drewN ?_ _)))⟩

theorem product_any (x y : Int) (h1 : -9223372036854775808 ≤ x) (h2 : x ≤ 9223372036854775807) (h3 : -9223372036854775808 ≤ y) (h4 : y ≤ 9223372036854775807) (w : World) :
    Calls Try.prog 102 #[.int .i64 x, .int .i64 y] w fun e w' => e = .returned (.agg #[.int .u64 (whi (x * y)), .int .u64 (wlo (x * y))]) ∧ Below w.heap.size w w' := by
  rcases (show x < 0 ∨ 0 ≤ x by omega) with h | h <;> rcases (show y < 0 ∨ 0 ≤ y by omega) with k | k
  · exact product_same x y _ h1 h2 h3 h4 (by rw [decide_eq_true h, decide_eq_true k]; rfl) (by show _ = _; rw [mag_neg x h, mag_neg y k, Int.neg_mul_neg]) w
  · exact product_other x y _ _ h1 h2 h3 h4 (by rw [decide_eq_true h, decide_eq_false (by omega)]; rfl) rfl (by show _ = _; rw [mag_neg x h, mag_pos y k, Int.neg_mul, Int.neg_neg]) w
  · exact product_other x y _ _ h1 h2 h3 h4 (by rw [decide_eq_true k, decide_eq_false (by omega)]; rfl) rfl (by show _ = _; rw [mag_pos x h, mag_neg y k, Int.mul_neg, Int.neg_neg]) w
  · exact product_same x y _ h1 h2 h3 h4 (by rw [decide_eq_false (by omega), decide_eq_false (by omega)]; rfl) (by show _ = _; rw [mag_pos x h, mag_pos y k]) w
end Go.Proofs.Ytcafmmhjlecgpaa
