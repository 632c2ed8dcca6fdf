/-
  Layer 1: what two enclosures share, for valid ones.
-/
import Derived.Test.YtekpfgcpbipdpaaDoorMeet
import Derived.Test.YtekpfgcpbipdpaaDoorIval
namespace Go.Proofs.YtekpfgcpbipdpaaDoor
open Go.RowKit

theorem hi1 (l m z : Rat) : hiQ l [m] ≤ z ↔ l ≤ z ∧ m ≤ z := by
  unfold hiQ; simp only [List.foldl_cons, List.foldl_nil]; grind
theorem lo1 (h n z : Rat) : z ≤ loQ h [n] ↔ z ≤ h ∧ z ≤ n := by
  unfold loQ; simp only [List.foldl_cons, List.foldl_nil]; grind
theorem hull1 (l m : Rat) (fl : fits l) (fm : fits m) (B : Nat) (w : World) (h0 : w.cell? ⟨B, 0, none⟩ = some (.int .i64 (fn m))) (h1 : w.cell? ⟨B, 1, none⟩ = some (.int .i64 (fd m))) :
    Calls Tryd.prog 55 #[.agg #[.int .i64 (fn l), .int .i64 (fd l)], .slice (some ⟨B, 0, none⟩) 1 1] w fun e w' => e = .returned (.agg #[.int .i64 (fn (loQ l [m])), .int .i64 (fd (loQ l [m])), .int .i64 (fn (hiQ l [m])), .int .i64 (fd (hiQ l [m]))]) ∧ Below w.heap.size w w' := by
  refine hull_any l [m] fl (by intro x hx; simp at hx; subst hx; exact fm) B 0 1 1 rfl (by omega) (by omega) w (fun i hi => ?_)
  obtain rfl : i = 0 := by omega
  exact ⟨h0, h1⟩
theorem meet_q (l h m n : Rat) (fl : fits l) (fh : fits h) (fm : fits m) (fn' : fits n) (hlh : l ≤ h) (hmn : m ≤ n) :
    ∃ A B C D E, (∀ w, Calls Tryd.prog 23 #[.agg #[.int .i64 (fn l), .int .i64 (fd l), .int .i64 (fn h), .int .i64 (fd h)], .agg #[.int .i64 (fn m), .int .i64 (fd m), .int .i64 (fn n), .int .i64 (fd n)]] w fun e w' => e = .returned (.tuple #[.agg #[.int .i64 A, .int .i64 B, .int .i64 C, .int .i64 D], .int .i64 E]) ∧ Below w.heap.size w w') ∧
      ((E = 6 ∧ ¬ hiQ l [m] ≤ loQ h [n]) ∨ (E = 0 ∧ hiQ l [m] ≤ loQ h [n] ∧ A = fn (hiQ l [m]) ∧ B = fd (hiQ l [m]) ∧ C = fn (loQ h [n]) ∧ D = fd (loQ h [n]))) := by
  have fL : fits (hiQ l [m]) := hiQ_fits l fl [m] (by intro x hx; simp at hx; subst hx; exact fm)
  have fH : fits (loQ h [n]) := loQ_fits h fh [n] (by intro x hx; simp at hx; subst hx; exact fn')
  have HU := hull1 l m fl fm
  have HV := hull1 h n fh fn'
  have hd : (ckS2 (fn l) (fd l) (fn h) (fd h) (fn m) (fd m) (fn n) (fd n) != 0) = false := by rw [ckS2_ok ⟨l, h, fl, fh, rfl, rfl, rfl, rfl, hlh⟩ ⟨m, n, fm, fn', rfl, rfl, rfl, rfl, hmn⟩]; rfl
  by_cases c : hiQ l [m] ≤ loQ h [n]
  · exact ⟨_, _, _, _, 0, fun w => meet_walk _ _ _ _ _ _ _ _ _ _ _ _ _ _ _ _ _ _ _ _ _ _ w hd HU HV (order_q _ _ fL fH) (.inr ⟨fun k => absurd (ordQ_gt.1 k) (Rat.not_lt.2 c), rfl, rfl, rfl, rfl, rfl⟩), .inr ⟨rfl, c, rfl, rfl, rfl, rfl⟩⟩
  · exact ⟨_, _, _, _, 6, fun w => meet_walk _ _ _ _ _ _ _ _ _ _ _ _ _ _ _ _ _ _ _ _ _ _ w hd HU HV (order_q _ _ fL fH) (.inl ⟨ordQ_gt.2 (Rat.not_le.1 c), rfl, rfl, rfl, rfl, rfl⟩), .inl ⟨rfl, c⟩⟩
end Go.Proofs.YtekpfgcpbipdpaaDoor
