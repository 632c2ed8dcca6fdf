/-
  The document's own answers, layer 1: fractions made, sums and differences.
-/
import Derived.Test.YtcafmmhjlecgpaaRef9
import Derived.Test.YtcafmmhjlecgpaaRef7
namespace Go.Proofs.Ytcafmmhjlecgpaa
open Go.RowKit

set_option maxHeartbeats 2000000 in
theorem rmake_walk (n d s t y m k A B : Int) (ok : Bool) (M N E : Int) (w : World) (d0 : (d == 0) = false) (hy : IntKind.i64.wrap (s * t) = y)
    (HS1 : Hid (∀ w, Calls Try.prog 114 #[.int .i64 n] w fun e w' => e = .returned (.int .i64 s) ∧ w = w'))
    (HS2 : Hid (∀ w, Calls Try.prog 114 #[.int .i64 d] w fun e w' => e = .returned (.int .i64 t) ∧ w = w'))
    (HM1 : Hid (∀ w, Calls Try.prog 113 #[.int .i64 n] w fun e w' => e = .returned (.int .u64 m) ∧ w = w'))
    (HM2 : Hid (∀ w, Calls Try.prog 113 #[.int .i64 d] w fun e w' => e = .returned (.int .u64 k) ∧ w = w'))
    (HL : Hid (∀ w, Calls Try.prog 128 #[.int .i64 y, .agg #[.int .u64 0, .int .u64 m], .agg #[.int .u64 0, .int .u64 k]] w fun e w' => e = .returned (.tuple #[.agg #[.int .i64 A, .int .i64 B], .bool ok]) ∧ Below w.heap.size w w'))
    (HF : Hid (∀ w, Calls Try.prog 127 #[.agg #[.int .i64 A, .int .i64 B], .bool ok] w fun e w' => e = .returned (.tuple #[.agg #[.int .i64 M, .int .i64 N], .int .i64 E]) ∧ Below w.heap.size w w')) :
    Calls Try.prog 117 #[.int .i64 n, .int .i64 d] w fun e w' => e = .returned (.tuple #[.agg #[.int .i64 M, .int .i64 N], .int .i64 E]) ∧ Below w.heap.size w w' := by
  go_enter Try.func117, Try.ntmps117
  go_wp2_with (first
    | (go_at_call 114; (with_reducible refine (HS1.out _).mono ?_); rintro e w1 ⟨rfl, rfl⟩)
    | (go_at_call 114; (with_reducible refine (HS2.out _).mono ?_); rintro e w1 ⟨rfl, rfl⟩)
    | (go_at_call 113; (with_reducible refine (HM1.out _).mono ?_); rintro e w1 ⟨rfl, rfl⟩)
    | (go_at_call 113; (with_reducible refine (HM2.out _).mono ?_); rintro e w1 ⟨rfl, rfl⟩)
    | (go_at_call 128; (with_reducible refine (HL.out _).mono ?_); rintro e w1 ⟨rfl, hb⟩; (first | ((with_reducible have k0 := Blk.later hb (Blk.new rfl)); skip; obtain ⟨a0, b0⟩ := k0.read; have zl := k0.lt) | ((try (have zk := k0.lt; (first | ((with_reducible refine Blk.keepG hb k0 (fun h => ?_) ?_); (focus ((repeat' (first | (with_reducible assumption) | ((with_reducible refine Blk.new ?_); first | rfl | (simp; done)) | (with_reducible refine Blk.later (by assumption) ?_) | (with_reducible refine Blk.alloc ?_) | (with_reducible refine Blk.drewN ?_) | (with_reducible refine Blk.drew ?_) | (with_reducible refine Blk.other ?_ (by first | omega | (simp; done) | (simp; omega))))); done)); clear k0; intro k0) | (with_reducible replace k0 := Blk.later hb (Blk.set (Blk.set k0))) | (with_reducible replace k0 := Blk.later hb (Blk.set k0))); clear a0 b0; obtain ⟨a0, b0⟩ := k0.read; have zl := k0.lt)))))
    | (go_at_call 127; (with_reducible refine (HF.out _).mono ?_); rintro e w1 ⟨rfl, hb⟩; (try (have zk := k0.lt; (first | ((with_reducible refine Blk.keepG hb k0 (fun h => ?_) ?_); (focus ((repeat' (first | (with_reducible assumption) | ((with_reducible refine Blk.new ?_); first | rfl | (simp; done)) | (with_reducible refine Blk.later (by assumption) ?_) | (with_reducible refine Blk.alloc ?_) | (with_reducible refine Blk.drewN ?_) | (with_reducible refine Blk.drew ?_) | (with_reducible refine Blk.other ?_ (by first | omega | (simp; done) | (simp; omega))))); done)); clear k0; intro k0) | (with_reducible replace k0 := Blk.later hb (Blk.set (Blk.set k0))) | (with_reducible replace k0 := Blk.later hb (Blk.set k0))); clear a0 b0; obtain ⟨a0, b0⟩ := k0.read; have zl := k0.lt))))
  exact bodyPost_ret (v := .tuple #[.agg #[.int .i64 M, .int .i64 N], .int .i64 E]) (by simp only [results, Try.results117]; go_simp) rfl ⟨rfl, by (repeat' (first | (with_reducible exact Below.refl _ _) | (with_reducible assumption) | (with_reducible refine belowThru ?_ (by assumption)) | (with_reducible refine belowAlloc ?_) | (with_reducible refine Below.setCell ?_ (by first | omega | (simp; done) | (simp; omega)) _) | (with_reducible refine Below.drew ?_) | (with_reducible refine below_drewN ?_ _)))⟩

theorem rmake_q (n d : Int) (w : World) (n1 : -9223372036854775808 ≤ n) (n2 : n ≤ 9223372036854775807) (d1 : -9223372036854775808 ≤ d) (d2 : d ≤ 9223372036854775807) (d0 : d ≠ 0) :
    Calls Try.prog 117 #[.int .i64 n, .int .i64 d] w fun e w' => e = .returned (.tuple #[.agg #[.int .i64 (rn (mkR n d)), .int .i64 (rd (mkR n d))], .int .i64 (re (mkR n d))]) ∧ Below w.heap.size w w' := by
  have m1 := mag_lo n; have m2 := mag_le n n1 n2; have m3 := mag_lo d; have m4 := mag_le d d1 d2
  have m5 : 1 ≤ mag d := by have := mag_natAbs d; omega
  have k1 := sg n; have k2 := sg d
  have hb := mul_bound n.sign d.sign 1 1 (by omega) (by omega) (by omega) (by omega)
  have hx : mkR n d = mkR (if n.sign * d.sign < 0 then -mag n else mag n) (mag d) := by
    have g := mag_sg n
    rcases k2 with ⟨h1, h2⟩ | ⟨h1, h2⟩ | ⟨h1, h2⟩
    · rw [mag_neg d h1, h2, ← show mkR (-n) (-d) = mkR n d from Rat.neg_divInt_neg n d, Int.mul_neg_one]
      congr 1
      split <;> omega
    · exact absurd h1 d0
    · rw [mag_pos d (by omega), h2, Int.mul_one]
      congr 1
      split <;> omega
  have HL := lowest_q (mkR n d) (n.sign * d.sign) (mag n) (mag d) m1 (by omega) m5 (by omega) hx
  rw [whi_of (mag n) m1 (by omega), wlo_of (mag n) m1 (by omega), whi_of (mag d) m3 (by omega), wlo_of (mag d) m3 (by omega)] at HL
  exact rmake_walk n d n.sign d.sign (n.sign * d.sign) (mag n) (mag d) _ _ _ _ _ _ w (by simpa using d0) (IntWalk.i64_in _ (by omega)) (Lib.hid (rsign_any _)) (Lib.hid (rsign_any _)) (Lib.hid (rsize_any _ n1 n2)) (Lib.hid (rsize_any _ d1 d2)) (Lib.hid HL) (Lib.hid (rfit_q _))
set_option maxHeartbeats 1000000 in
theorem rmake_zero (n : Int) (w : World) :
    Calls Try.prog 117 #[.int .i64 n, .int .i64 0] w fun e w' => e = .returned (.tuple #[.agg #[.int .i64 0, .int .i64 0], .int .i64 10]) ∧ Below w.heap.size w w' := by
  go_enter Try.func117, Try.ntmps117
  go_wp2
  exact bodyPost_ret (v := .tuple #[.agg #[.int .i64 0, .int .i64 0], .int .i64 10]) (by simp only [results, Try.results117]; go_simp) rfl ⟨rfl, by (repeat' (first | (with_reducible exact Below.refl _ _) | (with_reducible assumption) | (with_reducible refine belowThru ?_ (by assumption)) | (with_reducible refine belowAlloc ?_) | (with_reducible refine Below.setCell ?_ (by first | omega | (simp; done) | (simp; omega)) _) | (with_reducible refine Below.drew ?_) | (with_reducible refine below_drewN ?_ _)))⟩

/-- What holds of the region whichever operations have come up. -/
def RSubI (a b c d g h A B M N E : Int) (ok : Bool) (w : World) (i15 i16 i17 i18 i19 i20 i21 i22 i23 i5 : Value) (b9 : Act) (L9 : Array Bool) (a9 : Act) (w9 : World) : Prop :=
  ∃ (gg0 gg1 gg2 gg3 gg4 gg5 gg6 gg7 gg8 gg9 gg10 : Bool), L9 = #[gg0, gg1, gg2, gg3, gg4, gg5, gg6, gg7, gg8, gg9, gg10] ∧ a9 = ((((((((((b9).put (some 15) (cond gg0 (.agg #[.int .i64 a, .int .i64 b]) (i15))).put (some 16) (cond gg1 (.agg #[.int .i64 c, .int .i64 d]) (i16))).put (some 17) (cond gg2 (.agg #[.int .i64 g, .int .i64 h]) (i17))).put (some 18) (cond gg3 (.tuple #[.agg #[.int .i64 A, .int .i64 B], .bool ok]) (i18))).put (some 19) (cond gg4 (.agg #[.int .i64 A, .int .i64 B]) (i19))).put (some 20) (cond gg5 (.bool ok) (i20))).put (some 21) (cond gg6 (.tuple #[.agg #[.int .i64 M, .int .i64 N], .int .i64 E]) (i21))).put (some 22) (cond gg7 (.agg #[.int .i64 M, .int .i64 N]) (i22))).put (some 23) (cond gg8 (.int .i64 E) (i23))).put (some 5) (cond gg10 (.int .i64 E) (i5)) ∧ Blk w9 w.heap.size #[.int .i64 a, .int .i64 b] 24 ∧ Blk w9 (w.heap.size + 1) #[.int .i64 c, .int .i64 d] 24 ∧ Blk w9 (w.heap.size + 1 + 1) (cond gg9 #[.int .i64 M, .int .i64 N] #[.int .i64 0, .int .i64 0]) 24 ∧ Below w.heap.size w w9 ∧ (w.heap.size + 1 + 1 + 1) ≤ w9.heap.size

end Go.Proofs.Ytcafmmhjlecgpaa
