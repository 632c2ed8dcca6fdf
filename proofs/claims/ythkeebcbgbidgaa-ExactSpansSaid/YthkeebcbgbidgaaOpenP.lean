/-
  Fractions and enclosures among the arguments of a law: taken apart, and put together in any later world.
-/
import Derived.Test.YthkeebcbgbidgaaPlain
import Derived.Lib.SmallJoins
namespace Go.Proofs.Ythkeebcbgbidgaa
open Go.ChangeShapes Go.WideShapes Go.ChangeAt Go.RowKit

variable {H : Type} {enc : TypeId × Value → H}

/-- The data of a fraction, of an enclosure. -/
def dF (H : Type) (a b : Int) : DataW H := .agg [.lit (.int .i64 a), .lit (.int .i64 b)]
def dS (H : Type) (a b c d : Int) : DataW H := .agg [dF H a b, dF H c d]

set_option maxRecDepth 100000 in
theorem frac_trod {W : World} {base : Nat} {sp : Nat → Bool} {held : Bool} {fuel : Nat} {cs : List Value} {x : DataW H × List MemPlace} (h : DataW.trod enc Try.prog W base sp held fuel 23 cs = some x) :
    ∃ a b : Int, cs = [.int .i64 a, .int .i64 b] ∧ x = (dF H a b, []) ∧ (Lit.int .i64 a).wf = true ∧ (Lit.int .i64 b).wf = true := by
  obtain ⟨y0, y1, n, rfl, hl, h0, h1⟩ := trod_struct2 Try.underlying23 h
  have e1 : Try.prog.cellsOf 23 = 2 := by kernel_rfl
  have e2 : Try.prog.cellsOf 3 = 1 := by kernel_rfl
  rw [e1] at hl
  match cs, hl with
  | [c0, c1], _ =>
    have h0' : DataW.trod enc Try.prog W base sp held n 3 [c0] = some y0 := by simpa [e2] using h0
    have h1' : DataW.trod enc Try.prog W base sp held n 3 [c1] = some y1 := by simpa [e2] using h1
    obtain ⟨a, ha, hx, wa⟩ := DataW.trod_int Try.underlying3 h0'
    obtain ⟨b, hb, hy, wb⟩ := DataW.trod_int Try.underlying3 h1'
    obtain rfl : c0 = .int .i64 a := by simpa using ha
    obtain rfl : c1 = .int .i64 b := by simpa using hb
    subst hx hy
    exact ⟨a, b, rfl, rfl, wa, wb⟩
set_option maxRecDepth 100000 in
theorem frac_mk (W : World) (base : Nat) (sp : Nat → Bool) (held : Bool) (m : Nat) {a b : Int} (wa : (Lit.int .i64 a).wf = true) (wb : (Lit.int .i64 b).wf = true) :
    DataW.trod enc Try.prog W base sp held (m + 2) 23 [.int .i64 a, .int .i64 b] = some (dF H a b, []) := by
  have e1 : Try.prog.cellsOf 23 = 2 := by kernel_rfl
  have e2 : Try.prog.cellsOf 3 = 1 := by kernel_rfl
  have := trod_struct2_mk (enc := enc) (w := W) (base := base) (spare := sp) (held := held) (n := m + 1) (cs := [.int .i64 a, .int .i64 b]) (y0 := (.lit (.int .i64 a), [])) (y1 := (.lit (.int .i64 b), [])) Try.underlying23 (by rw [e1]; rfl)
    (by simpa [e2] using trod_int_mk m Try.underlying3 wa) (by simpa [e2] using trod_int_mk m Try.underlying3 wb)
  exact this

set_option maxRecDepth 100000 in
/-- A fraction that came in. -/
theorem open_frac {W : World} {b0 : Nat} {r : Reach} {base : Nat} {sp : Nat → Bool} {held : Bool} {v : Value} {d : DataW H} {p : List MemPlace}
    (hval : Value.okWide Try.prog W r b0 23 v) (h : DataW.Trod enc Try.prog W base sp held 23 v d p) :
    ∃ a b : Int, v = .agg #[.int .i64 a, .int .i64 b] ∧ d = dF H a b ∧ p = [] ∧ (Lit.int .i64 a).wf = true ∧ (Lit.int .i64 b).wf = true := by
  obtain ⟨cs, rfl, hsz⟩ := okWide_struct Try.underlying23 hval
  obtain ⟨fuel, hf⟩ := h
  obtain ⟨a, b, hc, hx, wa, wb⟩ := frac_trod hf
  simp only [Prod.mk.injEq] at hx
  have hc' : cs = #[.int .i64 a, .int .i64 b] := by
    have : cs.toList = [.int .i64 a, .int .i64 b] := hc
    cases cs; simp_all
  exact ⟨a, b, by rw [hc'], hx.1, hx.2, wa, wb⟩
set_option maxRecDepth 100000 in
theorem shut_frac {W : World} {base : Nat} {sp : Nat → Bool} {held : Bool} {a b : Int} (wa : (Lit.int .i64 a).wf = true) (wb : (Lit.int .i64 b).wf = true) :
    DataW.Trod enc Try.prog W base sp held 23 (.agg #[.int .i64 a, .int .i64 b]) (dF H a b) [] := ⟨2, frac_mk W base sp held 0 wa wb⟩

set_option maxRecDepth 100000 in
/-- An enclosure that came in. -/
theorem open_span {W : World} {b0 : Nat} {r : Reach} {base : Nat} {sp : Nat → Bool} {held : Bool} {v : Value} {d : DataW H} {p : List MemPlace}
    (hval : Value.okWide Try.prog W r b0 39 v) (h : DataW.Trod enc Try.prog W base sp held 39 v d p) :
    ∃ a b c e : Int, v = .agg #[.int .i64 a, .int .i64 b, .int .i64 c, .int .i64 e] ∧ d = dS H a b c e ∧ p = [] ∧ (Lit.int .i64 a).wf = true ∧ (Lit.int .i64 b).wf = true ∧ (Lit.int .i64 c).wf = true ∧ (Lit.int .i64 e).wf = true := by
  obtain ⟨cs, rfl, hsz⟩ := okWide_struct Try.underlying39 hval
  obtain ⟨fuel, hf⟩ := h
  obtain ⟨y0, y1, n, hx, hl, h0, h1⟩ := trod_struct2 Try.underlying39 hf
  have e1 : Try.prog.cellsOf 23 = 2 := by kernel_rfl
  have e4 : Try.prog.cellsOf 39 = 4 := by kernel_rfl
  obtain ⟨c0, c1, c2, c3, rfl⟩ := Joins.array4 (hsz.trans e4)
  have h0' : DataW.trod enc Try.prog W base sp held n 23 [c0, c1] = some y0 := by simpa [e1, Value.cells] using h0
  have h1' : DataW.trod enc Try.prog W base sp held n 23 [c2, c3] = some y1 := by simpa [e1, Value.cells] using h1
  obtain ⟨a, b, hc, hy0, wa, wb⟩ := frac_trod h0'
  obtain ⟨c, e, hd, hy1, wc, we⟩ := frac_trod h1'
  simp only [List.cons.injEq, and_true] at hc hd
  obtain ⟨rfl, rfl⟩ := hc
  obtain ⟨rfl, rfl⟩ := hd
  subst hy0 hy1
  simp only [Prod.mk.injEq, List.append_nil] at hx
  exact ⟨a, b, c, e, rfl, hx.1, hx.2, wa, wb, wc, we⟩
set_option maxRecDepth 100000 in
theorem shut_span {W : World} {base : Nat} {sp : Nat → Bool} {held : Bool} {a b c e : Int} (wa : (Lit.int .i64 a).wf = true) (wb : (Lit.int .i64 b).wf = true) (wc : (Lit.int .i64 c).wf = true) (we : (Lit.int .i64 e).wf = true) :
    DataW.Trod enc Try.prog W base sp held 39 (.agg #[.int .i64 a, .int .i64 b, .int .i64 c, .int .i64 e]) (dS H a b c e) [] := by
  have e1 : Try.prog.cellsOf 23 = 2 := by kernel_rfl
  have e4 : Try.prog.cellsOf 39 = 4 := by kernel_rfl
  have := trod_struct2_mk (enc := enc) (w := W) (base := base) (spare := sp) (held := held) (n := 2) (cs := [.int .i64 a, .int .i64 b, .int .i64 c, .int .i64 e]) (y0 := (dF H a b, [])) (y1 := (dF H c e, [])) Try.underlying39 (by rw [e4]; rfl)
    (by simpa [e1] using frac_mk W base sp held 0 wa wb) (by simpa [e1] using frac_mk W base sp held 0 wc we)
  exact ⟨3, this⟩
end Go.Proofs.Ythkeebcbgbidgaa
