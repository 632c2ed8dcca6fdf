/-
  A kernel among the arguments.
-/
import Derived.Test.YtihefdlolfpbnaaIFrame
namespace Go.Proofs.Ytihefdlolfpbnaa
open Go.ChangeShapes Go.WideShapes Go.ChangeAt Go.RowKit
set_option linter.unusedVariables false
set_option linter.unusedSimpArgs false
variable {H : Type} {enc : TypeId × Value → H}

set_option maxRecDepth 100000 in
/-- A kernel that came in. -/
theorem open_kernel {W : World} {b0 : Nat} {r : Reach} {v : Value} {d : DataW H} {p : List MemPlace} (hval : Value.okWide Try.prog W r b0 36 v) (h : DataW.Trod enc Try.prog W 0 (fun _ => true) true 36 v d p) :
    ∃ (w h : Int) (a : Option Addr) (n c : Nat) (zs : List Int), v = .agg #[.int .i64 w, .int .i64 h, .slice a n c] ∧ (Lit.int .i64 w).wf = true ∧ (Lit.int .i64 h).wf = true ∧ n ≤ c ∧ c ≤ maxLen ∧ Row W a n (iv zs) ∧ ((d.weights Try.prog 36).all (· ≤ reachBytes) = true → n * 8 ≤ 140737488351232) := by
  obtain ⟨v0, v1, v2, y0, y1, y2, n, rfl, rfl, rfl, h0, h1, h2⟩ := Joins.open_agg3 Try.underlying36 (by kernel_rfl) (by kernel_rfl) hval h
  obtain ⟨w, e0, hy0, w0⟩ := DataW.trod_int Try.underlying3 h0
  obtain ⟨g, e1, hy1, w1⟩ := DataW.trod_int Try.underlying3 h1
  obtain ⟨a, m, c, zs, rfl, q1, q2, q3, q4⟩ := open_row h2
  simp only [List.cons.injEq, and_true] at e0 e1
  subst e0 e1
  refine ⟨w, g, a, m, c, zs, rfl, w0, w1, q1, q2, q3, fun hw => q4 ?_⟩
  simp only [DataW.weights, Try.underlying36, DataW.weightsEach, List.map_cons, List.map_nil, List.append_nil, List.all_append, Bool.and_eq_true] at hw
  exact hw.2.2

end Go.Proofs.Ytihefdlolfpbnaa
