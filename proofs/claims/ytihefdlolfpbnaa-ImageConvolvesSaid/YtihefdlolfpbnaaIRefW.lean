/-
  Layer 2: the document's own answers: new images; turned, flipped and warped ones.
-/
import Derived.Test.YtihefdlolfpbnaaIWarps
import Derived.StillTailTactics
namespace Go.Proofs.Ytihefdlolfpbnaa
open Go.RowKit
set_option linter.unusedVariables false
set_option linter.unusedSimpArgs false

/-- The numbers of a new image that is filled up to a place. -/
def part (N : Nat) (V : Nat → Int) (k : Nat) : List Int := (List.range k).map V ++ List.replicate (N - k) 0
theorem part_zero (N : Nat) (V : Nat → Int) : part N V 0 = List.replicate N 0 := rfl
theorem part_all (N : Nat) (V : Nat → Int) : part N V N = made N V := by unfold part made; simp
theorem part_length {N : Nat} (V : Nat → Int) {k : Nat} (h : k ≤ N) : (part N V k).length = N := by unfold part; simp; omega
theorem part_at {N : Nat} (V : Nat → Int) {k : Nat} (h : k < N) : (part N V k)[k]? = some 0 := by
  unfold part
  rw [List.getElem?_append_right (by simp), List.length_map, List.length_range, Nat.sub_self, List.getElem?_replicate, if_pos (by omega)]
theorem part_set {N : Nat} (V : Nat → Int) {k : Nat} (h : k < N) : (part N V k).set k (V k) = part N V (k + 1) := by
  unfold part
  rw [List.set_append_right _ _ (by simp), List.length_map, List.length_range, Nat.sub_self, List.range_succ, List.map_append, List.append_assoc, show N - k = (N - (k + 1)) + 1 by omega, List.replicate_succ]
  rfl

theorem rvalid_ok {W H : Int} {zs : List Int} (h : okI W H zs) (a : Option Addr) (n c : Nat) (hn : n ≤ maxLen) (w : World) (hR : Row w a n (iv zs)) :
    Calls Try.prog 45 #[.agg #[.int .i64 W, .int .i64 H, .slice a n c]] w fun e w' => e = .returned (.bool true) ∧ Below w.heap.size w w' := by
  have := rvalid_any W H a n c zs hn w hR; rw [decide_eq_true h] at this; exact this
theorem rvalid_no {W H : Int} {zs : List Int} (h : ¬ okI W H zs) (a : Option Addr) (n c : Nat) (hn : n ≤ maxLen) (w : World) (hR : Row w a n (iv zs)) :
    Calls Try.prog 45 #[.agg #[.int .i64 W, .int .i64 H, .slice a n c]] w fun e w' => e = .returned (.bool false) ∧ Below w.heap.size w w' := by
  have := rvalid_any W H a n c zs hn w hR; rw [decide_eq_false h] at this; exact this

set_option maxHeartbeats 1000000 in
theorem blank_any (W H : Int) (N : Nat) (hN : W * H = (N : Int)) (N1 : N ≤ 256) (w : World) :
    Calls Try.prog 85 #[.int .i64 W, .int .i64 H] w fun e w' => ∃ b, e = .returned (.agg #[.int .i64 W, .int .i64 H, .slice (some ⟨b, 0, none⟩) N N]) ∧ w.heap.size ≤ b ∧ Blk w' b (ints (List.replicate N 0)) 3 ∧ Below w.heap.size w w' := by
  have hmk := run_make_ints N (by omega)
  have hw : IntKind.i64.wrap (N : Int) = (N : Int) := IntWalk.i64_in _ (by omega)
  go_enter Try.func85, Try.ntmps85
  go_wp2
  exact bodyPost_ret (v := .agg #[.int .i64 W, .int .i64 H, .slice (some ⟨w.heap.size + 1, 0, none⟩) N N]) (by simp only [results, Try.results85]; go_simp) rfl ⟨w.heap.size + 1, rfl, by omega, by (repeat' (first | (with_reducible assumption) | ((with_reducible refine Blk.new ?_); first | rfl | (simp; done)) | (with_reducible refine Blk.later (by assumption) ?_) | (with_reducible refine Blk.alloc ?_) | (with_reducible refine Blk.drewN ?_) | (with_reducible refine Blk.drew ?_) | (with_reducible refine Blk.other ?_ (by first | omega | (simp; done) | (simp; omega))))), by (repeat' (first | (with_reducible exact Below.refl _ _) | (with_reducible assumption) | (with_reducible refine belowThru ?_ (by assumption)) | (with_reducible refine belowAlloc ?_) | (with_reducible refine Below.setCell ?_ (by first | omega | (simp; done) | (simp; omega)) _) | (with_reducible refine Below.drew ?_) | (with_reducible refine below_drewN ?_ _)))⟩

end Go.Proofs.Ytihefdlolfpbnaa
