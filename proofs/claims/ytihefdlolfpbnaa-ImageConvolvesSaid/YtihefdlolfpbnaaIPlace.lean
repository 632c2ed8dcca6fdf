/-
  Layer 2: places and pixels.
-/
import Derived.Test.YtihefdlolfpbnaaILeaf
namespace Go.Proofs.Ytihefdlolfpbnaa
open Go.RowKit
set_option linter.unusedVariables false
set_option linter.unusedSimpArgs false

set_option maxHeartbeats 400000 in
theorem plus_any (x y a b : Int) (hx : -4294967296 ≤ x ∧ x ≤ 4294967296) (hy : -4294967296 ≤ y ∧ y ≤ 4294967296) (ha : -4294967296 ≤ a ∧ a ≤ 4294967296) (hb : -4294967296 ≤ b ∧ b ≤ 4294967296) (w : World) :
    Calls Try.prog 67 #[.agg #[.int .i64 x, .int .i64 y], .agg #[.int .i64 a, .int .i64 b]] w fun e w' => e = .returned (.agg #[.int .i64 (x + a), .int .i64 (y + b)]) ∧ Below w.heap.size w w' := by
  go_enter Try.func67, Try.ntmps67
  go_wp2
  exact bodyPost_ret (v := .agg #[.int .i64 (x + a), .int .i64 (y + b)]) (by simp only [results, Try.results67]; go_simp) rfl ⟨rfl, by (repeat' (first | (with_reducible exact Below.refl _ _) | (with_reducible assumption) | (with_reducible refine belowThru ?_ (by assumption)) | (with_reducible refine belowAlloc ?_) | (with_reducible refine Below.setCell ?_ (by first | omega | (simp; done) | (simp; omega)) _) | (with_reducible refine Below.drew ?_) | (with_reducible refine below_drewN ?_ _)))⟩
set_option maxHeartbeats 400000 in
theorem minus_any (x y a b : Int) (hx : -4294967296 ≤ x ∧ x ≤ 4294967296) (hy : -4294967296 ≤ y ∧ y ≤ 4294967296) (ha : -4294967296 ≤ a ∧ a ≤ 4294967296) (hb : -4294967296 ≤ b ∧ b ≤ 4294967296) (w : World) :
    Calls Try.prog 65 #[.agg #[.int .i64 x, .int .i64 y], .agg #[.int .i64 a, .int .i64 b]] w fun e w' => e = .returned (.agg #[.int .i64 (x - a), .int .i64 (y - b)]) ∧ Below w.heap.size w w' := by
  go_enter Try.func65, Try.ntmps65
  go_wp2
  exact bodyPost_ret (v := .agg #[.int .i64 (x - a), .int .i64 (y - b)]) (by simp only [results, Try.results65]; go_simp) rfl ⟨rfl, by (repeat' (first | (with_reducible exact Below.refl _ _) | (with_reducible assumption) | (with_reducible refine belowThru ?_ (by assumption)) | (with_reducible refine belowAlloc ?_) | (with_reducible refine Below.setCell ?_ (by first | omega | (simp; done) | (simp; omega)) _) | (with_reducible refine Below.drew ?_) | (with_reducible refine below_drewN ?_ _)))⟩

/-- A product of small numbers. -/
theorem small_mul (y W : Int) (y0 : 0 ≤ y) (y1 : y ≤ 64) (w0 : 0 ≤ W) (w1 : W ≤ 64) : 0 ≤ y * W ∧ y * W ≤ 4096 :=
  ⟨Int.mul_nonneg y0 w0, Int.le_trans (Int.mul_le_mul y1 w1 w0 (by omega)) (by omega)⟩

set_option maxHeartbeats 400000 in
theorem index_any (W H x y : Int) (p : Nat) (a : Option Addr) (n c : Nat) (hP : Hid (y * W + x = (p : Int))) (y0 : 0 ≤ y) (y1 : y ≤ 64) (w0 : 0 ≤ W) (w1 : W ≤ 64) (x0 : 0 ≤ x) (x1 : x ≤ 64) (w : World) :
    Calls Try.prog 100 #[.agg #[.int .i64 W, .int .i64 H, .slice a n c], .agg #[.int .i64 x, .int .i64 y]] w fun e w' => e = .returned (.int .i64 p) ∧ Below w.heap.size w w' := by
  obtain ⟨m0, m1⟩ := small_mul y W y0 y1 w0 w1
  rw [← hP.out]
  clear hP
  go_enter Try.func100, Try.ntmps100
  go_wp2
  go_ret
  exact ⟨rfl, by (repeat' (first | (with_reducible exact Below.refl _ _) | (with_reducible assumption) | (with_reducible refine belowThru ?_ (by assumption)) | (with_reducible refine belowAlloc ?_) | (with_reducible refine Below.setCell ?_ (by first | omega | (simp; done) | (simp; omega)) _) | (with_reducible refine Below.drew ?_) | (with_reducible refine below_drewN ?_ _)))⟩

set_option maxHeartbeats 1000000 in
/-- The value of a pixel. -/
theorem at_any (W H x y : Int) (p b off n c : Nat) (v : Int) (hP : Hid (y * W + x = (p : Int))) (y0 : 0 ≤ y) (y1 : y ≤ 64) (w0 : 0 ≤ W) (w1 : W ≤ 64) (x0 : 0 ≤ x) (x1 : x ≤ 64) (hp : p < n) (w : World) (hc : w.cell? ⟨b, off + p, none⟩ = some (.int .i64 v)) :
    Calls Try.prog 58 #[.agg #[.int .i64 W, .int .i64 H, .slice (some ⟨b, off, none⟩) n c], .agg #[.int .i64 x, .int .i64 y]] w fun e w' => e = .returned (.int .i64 v) ∧ Below w.heap.size w w' := by
  have HC := Lib.hid hc
  have HI := Lib.hid (fun w => index_any W H x y p (some ⟨b, off, none⟩) n c hP y0 y1 w0 w1 x0 x1 w)
  have p0 : (0 : Int) ≤ (p : Int) := by omega
  have p1 : (p : Int) < (n : Int) := by omega
  clear hP y0 y1 w0 w1 x0 x1 hc
  go_enter Try.func58, Try.ntmps58
  go_wp2
  go_region_held3 (fun w' => (Blk w' w.heap.size #[.int .i64 W, .int .i64 H, .slice (some ⟨b, off, none⟩) n c] 89 ∧ (∀ i : Nat, w'.cell? ⟨w.heap.size, i, none⟩ = (#[.int .i64 W, .int .i64 H, .slice (some ⟨b, off, none⟩) n c] : Array Value)[i]?)) ∧ (Blk w' (w.heap.size + 1) #[.int .i64 x, .int .i64 y] 86 ∧ (∀ i : Nat, w'.cell? ⟨w.heap.size + 1, i, none⟩ = (#[.int .i64 x, .int .i64 y] : Array Value)[i]?)) ∧ w'.cell? ⟨b, off + p, none⟩ = some (.int .i64 v) ∧ Below w.heap.size w w')
    (((first | (apply hold2; (focus assumption); intro p0 p1 pB; obtain ⟨pc, pB⟩ := pB) | skip); refine ⟨Blk.full ?_, Blk.full ?_, ?_, ?_⟩; all_goals (first | ((repeat' (first | (with_reducible assumption) | ((with_reducible refine Blk.new ?_); first | rfl | (simp; done)) | (with_reducible refine Blk.later (by assumption) ?_) | (with_reducible refine Blk.alloc ?_) | (with_reducible refine Blk.drewN ?_) | (with_reducible refine Blk.drew ?_) | (with_reducible refine Blk.other ?_ (by first | omega | (simp; done) | (simp; omega))))); done) | ((repeat' (first | (with_reducible exact Below.refl _ _) | (with_reducible assumption) | (with_reducible refine belowThru ?_ (by assumption)) | (with_reducible refine belowAlloc ?_) | (with_reducible refine Below.setCell ?_ (by first | omega | (simp; done) | (simp; omega)) _) | (with_reducible refine Below.drew ?_) | (with_reducible refine below_drewN ?_ _))); done) | (exact cell_later (by (repeat' (first | (with_reducible exact Below.refl _ _) | (with_reducible assumption) | (with_reducible refine belowThru ?_ (by assumption)) | (with_reducible refine belowAlloc ?_) | (with_reducible refine Below.setCell ?_ (by first | omega | (simp; done) | (simp; omega)) _) | (with_reducible refine Below.drew ?_) | (with_reducible refine below_drewN ?_ _)))) HC.out))))
    (first
    | (go_at_call 100; (with_reducible refine (HI.out _).mono ?_); rintro e w1 ⟨rfl, hb⟩))
  all_goals
    apply hold2; (focus assumption); intro p0 p1 pB; obtain ⟨pc, pB⟩ := pB
    go_wp2_with fail
    go_ret
    exact ⟨rfl, pB⟩
end Go.Proofs.Ytihefdlolfpbnaa
