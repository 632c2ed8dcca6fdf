/-
  Layer 4: Gray codes; the bits of a stripe.
-/
import Derived.Laws.BitsAllLaws
import Derived.Laws.BitsAll
import Derived.Test.YtcafmmhjlecgpaaJWithin
import Derived.Test.YtcafmmhjlecgpaaJStrM
namespace Go.Proofs.Ytcafmmhjlecgpaa
open Go.RowKit
set_option linter.unusedVariables false
set_option linter.unusedSimpArgs false

theorem i64_xor_nat (a b : Nat) (ha : a < 9223372036854775808) (hb : b < 9223372036854775808) : bits .xor .i64 (a : Int) (b : Int) = ((a ^^^ b : Nat) : Int) := by
  have hx : a ^^^ b < 2 ^ 63 := Nat.xor_lt_two_pow (by omega) (by omega)
  show IntKind.i64.wrap ((BitVec.ofInt 64 (a : Int) ^^^ BitVec.ofInt 64 (b : Int)).toNat : Int) = _
  rw [BitVec.toNat_xor, ofInt_u64 a (by omega), ofInt_u64 b (by omega), IntKind.wrap_i64]
  omega
theorem i64_and_nat (a b : Nat) (ha : a < 9223372036854775808) (hb : b < 9223372036854775808) : bits .and .i64 (a : Int) (b : Int) = ((a &&& b : Nat) : Int) := by
  have hx : a &&& b < 2 ^ 63 := Nat.and_lt_two_pow _ (by omega)
  show IntKind.i64.wrap ((BitVec.ofInt 64 (a : Int) &&& BitVec.ofInt 64 (b : Int)).toNat : Int) = _
  rw [BitVec.toNat_and, ofInt_u64 a (by omega), ofInt_u64 b (by omega), IntKind.wrap_i64]
  omega
theorem xor_gray (k : Nat) (hk : k ≤ 255) : bits .xor .i64 (k : Int) ((k : Int) / 2) = (grayN k : Int) := by
  rw [show (k : Int) / 2 = ((k / 2 : Nat) : Int) from by omega, i64_xor_nat _ _ (by omega) (by omega)]; rfl
theorem grayN_lt (k : Nat) (hk : k ≤ 255) : grayN k < 256 := Nat.xor_lt_two_pow (n := 8) (by omega) (by omega)

set_option maxHeartbeats 400000 in
theorem gray_any (k : Nat) (hk : k ≤ 255) (w : World) :
    Calls Try.prog 90 #[.int .i64 (k : Int)] w fun e w' => e = .returned (.int .i64 (grayN k : Int)) ∧ w = w' := by
  have h0 : (0 : Int) ≤ (k : Int) := by omega
  have h1 : (k : Int) ≤ 255 := by omega
  have HX := Lib.hid (xor_gray k hk)
  go_enter Try.func90, Try.ntmps90
  go_wp2
  go_ret
  exact ⟨ret_int HX.out, rfl⟩
set_option maxHeartbeats 400000 in
theorem rwithin_yes (n lo hi : Int) (h1 : lo ≤ n) (h2 : n ≤ hi) (w : World) :
    Calls Try.prog 68 #[.int .i64 n, .int .i64 lo, .int .i64 hi] w fun e w' => e = .returned (.bool true) ∧ w = w' := by
  go_enter Try.func68, Try.ntmps68
  go_wp2
  go_ret
  exact ⟨rfl, rfl⟩
set_option maxHeartbeats 400000 in
theorem rwithin_no (n lo hi : Int) (h : ¬ (lo ≤ n ∧ n ≤ hi)) (w : World) :
    Calls Try.prog 68 #[.int .i64 n, .int .i64 lo, .int .i64 hi] w fun e w' => e = .returned (.bool false) ∧ w = w' := by
  by_cases h1 : lo ≤ n
  · have hd : decide (n ≤ hi) = false := by simp; omega
    clear h
    go_enter Try.func68, Try.ntmps68
    go_wp2
    go_ret
    exact ⟨by first | rfl | simp, rfl⟩
  · clear h
    go_enter Try.func68, Try.ntmps68
    go_wp2
    go_ret
    exact ⟨by first | rfl | simp, rfl⟩
/-- The bits, one value after the other. -/
theorem brs_take_succ (m : Int) (xs ys : List Int) (h : xs.length = ys.length) (k : Nat) {x y : Int} (hx : xs[k]? = some x) (hy : ys[k]? = some y) :
    fromBits ((brs m xs ys).take (k + 1)) = 2 * fromBits ((brs m xs ys).take k) + (decide (m < x - y)).toNat := by
  have hk : k < xs.length := (List.getElem?_eq_some_iff.1 hx).1
  rw [List.take_add_one, brs_get m xs ys h k hk, hx, hy]
  exact fromBits_snoc _ _
theorem fromBits_le (bs : List Bool) (n : Nat) (h : bs.length ≤ n) (hn : n ≤ 50) : (fromBits bs : Int) ≤ 1125899906842624 := by
  have h1 := fromBits_lt bs
  have h2 : 2 ^ bs.length ≤ 2 ^ 50 := Nat.pow_le_pow_right (by omega) (by omega)
  omega
set_option maxHeartbeats 2000000 in
theorem brighter_any (m : Int) (a b : Option Addr) (n c d : Nat) (xs ys : List Int) (hn : n ≤ 50) (w : World) (hR : Row w a n (iv xs)) (hS : Row w b n (iv ys))
    (hv : AllIn 0 255 xs) (hu : AllIn 0 255 ys) :
    Calls Try.prog 91 #[.slice a n c, .slice b n d, .int .i64 m] w fun e w' => e = .returned (.int .i64 (fromBits (brs m xs ys) : Int)) ∧ Below w.heap.size w w' := by
  have hx : xs.length = n := by have := hR.1; rwa [iv_length] at this
  have hy : ys.length = n := by have := hS.1; rwa [iv_length] at this
  have HX := Lib.hid hx; have HY := Lib.hid hy; have HR := Lib.hid hR; have HS := Lib.hid hS; have HV := Lib.hid hv; have HU := Lib.hid hu
  clear hx hy hR hS hv hu
  go_enter Try.func91, Try.ntmps91
  go_wp2
  go_loopw [7, 8, 9, 12] (fun v _ _ i wr => ∃ k : Nat, k ≤ n ∧ i = .int .i64 k ∧ v = .int .i64 (fromBits ((brs m xs ys).take k) : Int) ∧ Below w.heap.size w wr) (fun _ _ _ i _ => n - (intOf i).toNat)
  case atStart => exact ⟨0, Nat.zero_le _, rfl, rfl, by (repeat' (first | (with_reducible exact Below.refl _ _) | (with_reducible assumption) | (with_reducible refine belowThru ?_ (by assumption)) | (with_reducible refine belowAlloc ?_) | (with_reducible refine Below.setCell ?_ (by first | omega | (simp; done) | (simp; omega)) _) | (with_reducible refine Below.drew ?_) | (with_reducible refine below_drewN ?_ _)))⟩
  case round =>
    obtain ⟨k, hk, rfl, rfl, hB⟩ := hrel
    by_cases hlt : k < n
    · obtain ⟨b1, o1, z1, rfl, l1, h1, c1⟩ := HR.out.int hlt
      obtain ⟨b2, o2, z2, rfl, l2, h2, c2⟩ := HS.out.int hlt
      have c1 := cell_later hB c1
      have c2 := cell_later hB c2
      have p0 : (0 : Int) ≤ (k : Int) := by omega
      have p1 : (k : Int) < (n : Int) := by omega
      obtain ⟨v1, v2⟩ := HV.out z1 (List.mem_of_getElem? h1)
      obtain ⟨v3, v4⟩ := HU.out z2 (List.mem_of_getElem? h2)
      have q0 : (0 : Int) ≤ (fromBits ((brs m xs ys).take k) : Int) := by omega
      have q1 := fromBits_le ((brs m xs ys).take k) k (by rw [List.length_take]; omega) (by omega)
      have HT := Lib.hid (brs_take_succ m xs ys (HX.out.trans HY.out.symm) k h1 h2)
      clear h1 h2
      by_cases hd : m < z1 - z2
      · have HT' : Hid ((fromBits ((brs m xs ys).take (k + 1)) : Int) = (fromBits ((brs m xs ys).take k) : Int) * 2 + 1) := by
          show _ = _; rw [HT.out, decide_eq_true hd]; simp [Bool.toNat]; omega
        clear HT
        generalize fromBits ((brs m xs ys).take k) = F at *
        go_wp2
        go_roundw
        case rel => exact ⟨k + 1, hlt, by go_num, by rw [HT'.out], by (repeat' (first | (with_reducible exact Below.refl _ _) | (with_reducible assumption) | (with_reducible refine belowThru ?_ (by assumption)) | (with_reducible refine belowAlloc ?_) | (with_reducible refine Below.setCell ?_ (by first | omega | (simp; done) | (simp; omega)) _) | (with_reducible refine Below.drew ?_) | (with_reducible refine below_drewN ?_ _)))⟩
        case measure => simp [intOf]; omega
      · have HT' : Hid ((fromBits ((brs m xs ys).take (k + 1)) : Int) = (fromBits ((brs m xs ys).take k) : Int) * 2) := by
          show _ = _; rw [HT.out, decide_eq_false hd]; simp [Bool.toNat]; omega
        clear HT
        generalize fromBits ((brs m xs ys).take k) = F at *
        go_wp2
        go_roundw
        case rel => exact ⟨k + 1, hlt, by go_num, by rw [HT'.out], by (repeat' (first | (with_reducible exact Below.refl _ _) | (with_reducible assumption) | (with_reducible refine belowThru ?_ (by assumption)) | (with_reducible refine belowAlloc ?_) | (with_reducible refine Below.setCell ?_ (by first | omega | (simp; done) | (simp; omega)) _) | (with_reducible refine Below.drew ?_) | (with_reducible refine below_drewN ?_ _)))⟩
        case measure => simp [intOf]; omega
    · have hz : (brs m xs ys).take k = brs m xs ys := List.take_of_length_le (by rw [brs_length _ _ _ (HX.out.trans HY.out.symm), HX.out]; omega)
      have HZ := Lib.hid hz
      clear hz
      go_wp2
      go_ret
      exact ⟨ret_int (by rw [HZ.out]), by (repeat' (first | (with_reducible exact Below.refl _ _) | (with_reducible assumption) | (with_reducible refine belowThru ?_ (by assumption)) | (with_reducible refine belowAlloc ?_) | (with_reducible refine Below.setCell ?_ (by first | omega | (simp; done) | (simp; omega)) _) | (with_reducible refine Below.drew ?_) | (with_reducible refine below_drewN ?_ _)))⟩
end Go.Proofs.Ytcafmmhjlecgpaa
