/-
  Layer 1: whether an enclosure contains a number, for any arguments.
-/
import Derived.Test.YtekpfgcpbipdpaaDoorSpans
import Derived.Test.YtekpfgcpbipdpaaDoorIval
namespace Go.Proofs.YtekpfgcpbipdpaaDoor
open Go.RowKit

theorem in_any (a b c d x y : Int) : ∃ (p : Bool) (e : Int), (∀ w, Calls Tryd.prog 33 #[.agg #[.int .i64 a, .int .i64 b, .int .i64 c, .int .i64 d], .agg #[.int .i64 x, .int .i64 y]] w fun e' w' => e' = .returned (.tuple #[.bool p, .int .i64 e]) ∧ Below w.heap.size w w') ∧
    ((p = false ∧ e = 8 ∧ ¬ (okS a b c d ∧ okF x y)) ∨ (e = 0 ∧ ∃ l h z : Rat, fits l ∧ fits h ∧ fits z ∧ l ≤ h ∧ a = fn l ∧ b = fd l ∧ c = fn h ∧ d = fd h ∧ x = fn z ∧ y = fd z ∧ p = hasQ l h z)) := by
  by_cases hs : okS a b c d
  · by_cases hx : okF x y
    · obtain ⟨l, h, fl, fh, rfl, rfl, rfl, rfl, hlh⟩ := hs
      obtain ⟨z, fz, rfl, rfl⟩ := (okF_iff _ _).1 hx
      exact ⟨_, 0, in_q l h z fl fh fz hlh, .inr ⟨rfl, l, h, z, fl, fh, fz, hlh, rfl, rfl, rfl, rfl, rfl, rfl, rfl⟩⟩
    · exact ⟨false, 8, in_bad2 a b c d x y hs hx, .inl ⟨rfl, rfl, fun k => hx k.2⟩⟩
  · exact ⟨false, 8, in_bad1 a b c d x y hs, .inl ⟨rfl, rfl, fun k => hs k.1⟩⟩
theorem hasQ_iff {l h z : Rat} : hasQ l h z = true ↔ l ≤ z ∧ z ≤ h := by
  unfold hasQ; rw [Bool.and_eq_true, decide_eq_true_iff, decide_eq_true_iff]
end Go.Proofs.YtekpfgcpbipdpaaDoor
