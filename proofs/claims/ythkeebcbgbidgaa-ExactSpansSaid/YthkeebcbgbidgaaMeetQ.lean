/-
  Layer 1: what two enclosures share, for valid ones.
-/
import Derived.Test.YthkeebcbgbidgaaMeet
import Derived.Test.YthkeebcbgbidgaaIval
namespace Go.Proofs.Ythkeebcbgbidgaa
open Go.RowKit

theorem hi1 (l m z : Rat) : hiQ l [m] ≤ z ↔ l ≤ z ∧ m ≤ z := by
  unfold hiQ; simp only [List.foldl_cons, List.foldl_nil]; grind
theorem hull1 (l m : Rat) (fl : fits l) (fm : fits m) (B : Nat) (w : World) (h0 : w.cell? ⟨B, 0, none⟩ = some (.int .i64 (fn m))) (h1 : w.cell? ⟨B, 1, none⟩ = some (.int .i64 (fd m))) :
    Calls Try.prog 63 #[.agg #[.int .i64 (fn l), .int .i64 (fd l)], .slice (some ⟨B, 0, none⟩) 1 1] w fun e w' => e = .returned (.agg #[.int .i64 (fn (loQ l [m])), .int .i64 (fd (loQ l [m])), .int .i64 (fn (hiQ l [m])), .int .i64 (fd (hiQ l [m]))]) ∧ Below w.heap.size w w' := by
  refine hull_any l [m] fl (by intro x hx; simp at hx; subst hx; exact fm) B 0 1 1 rfl (by omega) (by omega) w (fun i hi => ?_)
  obtain rfl : i = 0 := by omega
  exact ⟨h0, h1⟩
end Go.Proofs.Ythkeebcbgbidgaa
