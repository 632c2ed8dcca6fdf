/-
  Layer 1: the root that is searched bit by bit.
-/
import Derived.Test.YtekpfgcpbipdpaaDoorSpans
import Derived.Laws.Bits64b
namespace Go.Proofs.YtekpfgcpbipdpaaDoor
open Go.RowKit

theorem bits_or_i64_nat (a b : Nat) (ha : a < 9223372036854775808) (hb : b < 9223372036854775808) :
    bits .or .i64 (a : Int) (b : Int) = ((a ||| b : Nat) : Int) := by
  have hx : a ||| b < 2 ^ 63 := Nat.or_lt_two_pow (by omega) (by omega)
  have h1 : (BitVec.ofInt 64 (a : Int)).toNat = a := by
    rw [BitVec.toNat_ofInt]; omega
  have h2 : (BitVec.ofInt 64 (b : Int)).toNat = b := by
    rw [BitVec.toNat_ofInt]; omega
  show IntKind.i64.wrap ((BitVec.ofInt 64 (a : Int) ||| BitVec.ofInt 64 (b : Int)).toNat : Int) = _
  rw [BitVec.toNat_or, h1, h2, IntKind.wrap_i64]
  omega

theorem or_add (k j : Nat) (hj : j < 46) (hk : k * 2 ^ (j + 1) < 70368744177664) : bits .or .i64 ((k * 2 ^ (j + 1) : Nat) : Int) ((2 ^ j : Nat) : Int) = ((k * 2 ^ (j + 1) + 2 ^ j : Nat) : Int) := by
  have hp : 2 ^ j < 2 ^ 46 := Nat.pow_lt_pow_right (by omega) hj
  rw [bits_or_i64_nat _ _ (by omega) (by omega)]
  congr 1
  have hlt : 2 ^ j < 2 ^ (j + 1) := Nat.pow_lt_pow_right (by omega) (by omega)
  rw [Nat.mul_comm, ← Nat.two_pow_add_eq_or_of_lt hlt k]

set_option maxHeartbeats 1000000 in
theorem small_any (n m : Int) (B : Nat) (h1 : -9223372036854775808 ≤ n) (h2 : n ≤ 9223372036854775807) (b0 : -85070591730234615865843651857942052865 ≤ n * n - m) (b1 : n * n - m ≤ 85070591730234615865843651857942052865) (w : World)
    (k0 : Blk w B #[.int .u64 (whi m), .int .u64 (wlo m)] 64) :
    Calls Tryd.prog 59 #[.int .i64 n, .pointer (some ⟨B, 0, none⟩)] w fun e w' => e = .returned (.bool (decide (n * n ≤ m))) ∧ Below w.heap.size w w' := by
  have e : decide (n * n ≤ m) = decide ((n * n - m).sign ≤ 0) := by
    have := Int.sign_pos_iff (x := n * n - m)
    by_cases h : n * n ≤ m
    · rw [decide_eq_true h, decide_eq_true (by omega)]
    · rw [decide_eq_false h, decide_eq_false (by omega)]
  rw [e]
  obtain ⟨a0, b0'⟩ := k0.read
  have z0 := k0.lt
  have HS := Lib.hid (sign_any (n * n - m) (by omega) (by omega))
  obtain ⟨v, hv⟩ : ∃ v, (n * n - m).sign = v := ⟨_, rfl⟩
  rw [hv] at HS ⊢
  clear e hv
  go_enter Tryd.func59, Tryd.ntmps59
  go_wp2
  go_region_held3 (fun w' => (Blk w' B #[.int .u64 (whi m), .int .u64 (wlo m)] 64 ∧ (∀ i : Nat, w'.cell? ⟨B, i, none⟩ = (#[.int .u64 (whi m), .int .u64 (wlo m)] : Array Value)[i]?)) ∧ Below w.heap.size w w')
    (((first | (apply hold1; (focus assumption); intro p0 pB) | skip); refine ⟨Blk.full ?_, ?_⟩; all_goals (first | ((repeat' (first | (with_reducible assumption) | ((with_reducible refine Blk.new ?_); first | rfl | (simp; done)) | (with_reducible refine Blk.later (by assumption) ?_) | (with_reducible refine Blk.alloc ?_) | (with_reducible refine Blk.drewN ?_) | (with_reducible refine Blk.drew ?_) | (with_reducible refine Blk.other ?_ (by first | omega | (simp; done) | (simp; omega))))); done) | ((repeat' (first | (with_reducible exact Below.refl _ _) | (with_reducible assumption) | (with_reducible refine belowThru ?_ (by assumption)) | (with_reducible refine belowAlloc ?_) | (with_reducible refine Below.setCell ?_ (by first | omega | (simp; done) | (simp; omega)) _) | (with_reducible refine Below.drew ?_) | (with_reducible refine below_drewN ?_ _))); done))))
    (first
    | (go_at_call 56; (with_reducible refine (product_any n n (by omega) (by omega) (by omega) (by omega) _).mono ?_); rintro e w1 ⟨rfl, hb⟩)
    | (go_at_call 41; (with_reducible refine (minus_any (n * n) m _).mono ?_); rintro e w1 ⟨rfl, hb⟩)
    | (go_at_call 60; (with_reducible refine (HS.out _).mono ?_); rintro e w1 ⟨rfl, hb⟩))
  all_goals
    apply hold1; (focus assumption); intro p0 pB
    go_wp2_with fail
    go_ret
    exact ⟨rfl, pB⟩

/-- How far the search has come: what is left is below 2^j. -/
def Srch (m : Int) (bit n : Value) : Prop := ∃ j k : Nat, j ≤ 46 ∧ bit = .int .i64 ((2 ^ j / 2 : Nat) : Int) ∧ n = .int .i64 ((k * 2 ^ j : Nat) : Int) ∧ k * 2 ^ j + 2 ^ j ≤ 70368744177664 ∧ ((k * 2 ^ j : Nat) : Int) * ((k * 2 ^ j : Nat) : Int) ≤ m ∧ m < ((k * 2 ^ j + 2 ^ j : Nat) : Int) * ((k * 2 ^ j + 2 ^ j : Nat) : Int)

set_option maxHeartbeats 1000000 in
theorem greatest_any (m r : Int) (B : Nat) (m0 : 0 ≤ m) (m1 : m < 4951760157141521099596496896) (r0 : 0 ≤ r) (hr1 : r * r ≤ m) (hr2 : m < (r + 1) * (r + 1)) (w : World)
    (k0 : Blk w B #[.int .u64 (whi m), .int .u64 (wlo m)] 64) :
    Calls Tryd.prog 58 #[.func (.func 59) #[] #[.pointer (some ⟨B, 0, none⟩)]] w fun e w' => e = .returned (.int .i64 r) ∧ Below w.heap.size w w' := by
  have z0 := k0.lt
  have HR1 := Lib.hid hr1; clear hr1
  have HR2 := Lib.hid hr2; clear hr2
  go_enter Tryd.func58, Tryd.ntmps58
  go_wp2
  go_loopw [4, 3] (fun bit n wr => Srch m bit n ∧ Blk wr B #[.int .u64 (whi m), .int .u64 (wlo m)] 64 ∧ Below w.heap.size w wr) (fun bit _ _ => (intOf bit).toNat)
  case atStart => exact ⟨⟨46, 0, by omega, rfl, by simp, by decide, by simpa using m0, by simpa using m1⟩, k0, Below.refl _ _⟩
  case round =>
    obtain ⟨⟨j, k, hj, rfl, rfl, hn, h1, h2⟩, k0, hB⟩ := hrel
    rcases j with _ | j
    · have e1 : Hid ((k : Int) = r) := by
        show _ = _
        simp only [Nat.pow_zero, Nat.mul_one] at h1 h2
        have a := HR1.out; have b := HR2.out
        have x1 : ¬ (k : Int) < r := fun h => by
          have := Int.mul_le_mul (show (k : Int) + 1 ≤ r by omega) (show (k : Int) + 1 ≤ r by omega) (by omega) (by omega)
          rw [show ((k + 1 : Nat) : Int) = (k : Int) + 1 by omega] at h2; omega
        have x2 : ¬ r < (k : Int) := fun h => by
          have := Int.mul_le_mul (show r + 1 ≤ (k : Int) by omega) (show r + 1 ≤ (k : Int) by omega) (by omega) (by omega)
          omega
        omega
      clear h1 h2
      go_wp2
      go_ret
      refine ⟨?_, hB⟩
      rw [← e1.out]
      simp
    · have hp : 0 < 2 ^ j := Nat.two_pow_pos j
      have hs : 2 ^ (j + 1) = 2 ^ j * 2 := Nat.pow_succ 2 j
      have hd : 2 ^ (j + 1) / 2 = 2 ^ j := by omega
      have ho := or_add k j (by omega) (by omega)
      rw [hd]
      obtain ⟨b, hb⟩ : ∃ b, b = 2 ^ j := ⟨_, rfl⟩
      obtain ⟨n, hn'⟩ : ∃ n, n = k * 2 ^ (j + 1) := ⟨_, rfl⟩
      rw [← hb] at hp hs ho ⊢
      rw [← hn'] at ho hn h1 h2 ⊢
      rw [hs] at hn h2
      rw [Int.natCast_add] at ho
      have w1 : n + b ≤ 70368744177664 := by omega
      have HH1 := Lib.hid h1; clear h1
      have HH2 := Lib.hid h2; clear h2
      have sq := Int.mul_le_mul (show ((n : Int) + (b : Int)) ≤ 70368744177664 by omega) (show ((n : Int) + (b : Int)) ≤ 70368744177664 by omega) (by omega) (by omega)
      have sq0 := Int.mul_nonneg (show 0 ≤ ((n : Int) + (b : Int)) by omega) (show 0 ≤ ((n : Int) + (b : Int)) by omega)
      have HS := Lib.hid (fun w k0 => small_any ((n : Int) + (b : Int)) m B (by omega) (by omega) (by omega) (by omega) w k0)
      clear sq sq0
      by_cases ht : ((n : Int) + (b : Int)) * ((n : Int) + (b : Int)) ≤ m
      · have HS : Hid (∀ w, Blk w B #[.int .u64 (whi m), .int .u64 (wlo m)] 64 → Calls Tryd.prog 59 #[.int .i64 ((n : Int) + (b : Int)), .pointer (some ⟨B, 0, none⟩)] w fun e w' => e = .returned (.bool true) ∧ Below w.heap.size w w') := by
          intro w k; have := HS.out w k; rw [decide_eq_true ht] at this; exact this
        have HT := Lib.hid ht; clear ht
        have HB := Lib.hid hb; clear hb
        have HN := Lib.hid hn'; clear hn'
        have HQ := Lib.hid hs; clear hs hd
        go_wp2_with (go_at_call 59; (with_reducible refine (HS.out _ k0).mono ?_); rintro e w1 ⟨rfl, hb⟩)
        go_roundw
        case rel =>
          refine ⟨⟨j, 2 * k + 1, by omega, ?_, ?_, ?_, ?_, ?_⟩, by (repeat' (first | (with_reducible assumption) | ((with_reducible refine Blk.new ?_); first | rfl | (simp; done)) | (with_reducible refine Blk.later (by assumption) ?_) | (with_reducible refine Blk.alloc ?_) | (with_reducible refine Blk.drewN ?_) | (with_reducible refine Blk.drew ?_) | (with_reducible refine Blk.other ?_ (by first | omega | (simp; done) | (simp; omega))))), by (repeat' (first | (with_reducible exact Below.refl _ _) | (with_reducible assumption) | (with_reducible refine belowThru ?_ (by assumption)) | (with_reducible refine belowAlloc ?_) | (with_reducible refine Below.setCell ?_ (by first | omega | (simp; done) | (simp; omega)) _) | (with_reducible refine Below.drew ?_) | (with_reducible refine below_drewN ?_ _)))⟩
          · rw [← HB.out]; simp
          · rw [show (2 * k + 1) * 2 ^ j = n + b by rw [HN.out, HB.out, Nat.pow_succ]; grind]; simp
          · rw [show (2 * k + 1) * 2 ^ j = n + b by rw [HN.out, HB.out, Nat.pow_succ]; grind, ← HB.out]; omega
          · rw [show (2 * k + 1) * 2 ^ j = n + b by rw [HN.out, HB.out, Nat.pow_succ]; grind, Int.natCast_add]; exact HT.out
          · rw [show (2 * k + 1) * 2 ^ j + 2 ^ j = n + b * 2 by rw [HN.out, HB.out, Nat.pow_succ]; grind]; exact HH2.out
        case measure => simp [intOf]; omega
      · have HS : Hid (∀ w, Blk w B #[.int .u64 (whi m), .int .u64 (wlo m)] 64 → Calls Tryd.prog 59 #[.int .i64 ((n : Int) + (b : Int)), .pointer (some ⟨B, 0, none⟩)] w fun e w' => e = .returned (.bool false) ∧ Below w.heap.size w w') := by
          intro w k; have := HS.out w k; rw [decide_eq_false ht] at this; exact this
        have HT : Hid (m < ((n : Int) + (b : Int)) * ((n : Int) + (b : Int))) := by show _ < _; omega
        clear ht
        have HB := Lib.hid hb; clear hb
        have HN := Lib.hid hn'; clear hn'
        have HQ := Lib.hid hs; clear hs hd
        go_wp2_with (go_at_call 59; (with_reducible refine (HS.out _ k0).mono ?_); rintro e w1 ⟨rfl, hb⟩)
        go_roundw
        case rel =>
          refine ⟨⟨j, 2 * k, by omega, ?_, ?_, ?_, ?_, ?_⟩, by (repeat' (first | (with_reducible assumption) | ((with_reducible refine Blk.new ?_); first | rfl | (simp; done)) | (with_reducible refine Blk.later (by assumption) ?_) | (with_reducible refine Blk.alloc ?_) | (with_reducible refine Blk.drewN ?_) | (with_reducible refine Blk.drew ?_) | (with_reducible refine Blk.other ?_ (by first | omega | (simp; done) | (simp; omega))))), by (repeat' (first | (with_reducible exact Below.refl _ _) | (with_reducible assumption) | (with_reducible refine belowThru ?_ (by assumption)) | (with_reducible refine belowAlloc ?_) | (with_reducible refine Below.setCell ?_ (by first | omega | (simp; done) | (simp; omega)) _) | (with_reducible refine Below.drew ?_) | (with_reducible refine below_drewN ?_ _)))⟩
          · rw [← HB.out]; simp
          · rw [show 2 * k * 2 ^ j = n by rw [HN.out, Nat.pow_succ]; grind]
          · rw [show 2 * k * 2 ^ j = n by rw [HN.out, Nat.pow_succ]; grind, ← HB.out]; omega
          · rw [show 2 * k * 2 ^ j = n by rw [HN.out, Nat.pow_succ]; grind]; exact HH1.out
          · rw [show 2 * k * 2 ^ j = n by rw [HN.out, Nat.pow_succ]; grind, ← HB.out, Int.natCast_add]; exact HT.out
        case measure => simp [intOf]; omega
end Go.Proofs.YtekpfgcpbipdpaaDoor
