/-
  A shape among the arguments.
-/
import Derived.Test.YtefphhhmibnjiaaIFrame
import Derived.Deep.Grids
namespace Go.Proofs.Ytefphhhmibnjiaa
open Go.ChangeShapes Go.WideShapes Go.ChangeAt Go.RowKit
set_option linter.unusedVariables false
set_option linter.unusedSimpArgs false
variable {H : Type} {enc : TypeId × Value → H}

theorem open_brow {W : World} {fuel : Nat} {v : Value} {x : DataW H × List MemPlace} (h : DataW.trod enc Try.prog W 0 (fun _ => true) true fuel 41 [v] = some x) :
    ∃ (a : Option Addr) (n c : Nat) (zs : List Bool), v = .slice a n c ∧ n ≤ c ∧ c ≤ maxLen ∧ Row W a n (bv zs) := by
  rcases Go.Deep.open_bools Try.underlying41 Try.underlying4 (by kernel_rfl) h with ⟨hcs, _⟩ | ⟨a, len, cap, B, hcs, _, hl, hm, _, hcell⟩
  · simp only [List.cons.injEq, and_true] at hcs
    exact ⟨none, 0, 0, [], hcs, Nat.le_refl _, Nat.zero_le _, Row.nil _ _⟩
  · simp only [List.cons.injEq, and_true] at hcs
    refine ⟨some a, len, cap, (List.range len).map B, hcs, hl, hm, ⟨by rw [bv_length]; simp, fun h0 => ?_⟩⟩
    obtain ⟨b, off, spot⟩ := a
    have hspot : spot = none := by simpa [Addr.add] using World.cell?_spot (hcell 0 (by omega))
    subst hspot
    refine ⟨b, off, rfl, ?_, fun j hj => ?_⟩
    · have := hcell 0 (by omega)
      rw [Go.WideShapes.add_plain] at this
      unfold World.cell? at this
      by_cases hb : b < W.heap.size
      · exact hb
      · simp [Array.getElem?_eq_none (show W.heap.size ≤ b by omega)] at this
    · rw [← Go.WideShapes.add_plain, hcell j (by omega), bv_get]
      simp [hj]
set_option maxRecDepth 100000 in
/-- A shape that came in. -/
theorem open_shape {W : World} {b0 : Nat} {r : Reach} {v : Value} {d : DataW H} {p : List MemPlace} (hval : Value.okWide Try.prog W r b0 43 v) (h : DataW.Trod enc Try.prog W 0 (fun _ => true) true 43 v d p) :
    ∃ (w h : Int) (a : Option Addr) (n c : Nat) (zs : List Bool), v = .agg #[.int .i64 w, .int .i64 h, .slice a n c] ∧ (Lit.int .i64 w).wf = true ∧ (Lit.int .i64 h).wf = true ∧ n ≤ c ∧ c ≤ maxLen ∧ Row W a n (bv zs) := by
  obtain ⟨v0, v1, v2, y0, y1, y2, n, rfl, rfl, rfl, h0, h1, h2⟩ := Joins.open_agg3 Try.underlying43 (by kernel_rfl) (by kernel_rfl) hval h
  obtain ⟨w, e0, hy0, w0⟩ := DataW.trod_int Try.underlying3 h0
  obtain ⟨g, e1, hy1, w1⟩ := DataW.trod_int Try.underlying3 h1
  obtain ⟨a, m, c, zs, rfl, q1, q2, q3⟩ := open_brow h2
  simp only [List.cons.injEq, and_true] at e0 e1
  subst e0 e1
  exact ⟨w, g, a, m, c, zs, rfl, w0, w1, q1, q2, q3⟩
end Go.Proofs.Ytefphhhmibnjiaa
