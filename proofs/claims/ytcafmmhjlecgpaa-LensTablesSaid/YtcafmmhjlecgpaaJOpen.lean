/-
  Fractions, enclosures and cameras among the arguments of a law.
-/
import Derived.Test.YtcafmmhjlecgpaaJFrame
namespace Go.Proofs.Ytcafmmhjlecgpaa
open Go.ChangeShapes Go.WideShapes Go.ChangeAt Go.RowKit
set_option linter.unusedVariables false
set_option linter.unusedSimpArgs false

section
variable {H : Type} {enc : TypeId × Value → H}
set_option maxRecDepth 100000 in
theorem frac_in {W : World} {base : Nat} {sp : Nat → Bool} {held : Bool} {fuel : Nat} {cs : List Value} {x : DataW H × List MemPlace} (h : DataW.trod enc Try.prog W base sp held fuel 24 cs = some x) :
    ∃ a b : Int, cs = [.int .i64 a, .int .i64 b] ∧ (Lit.int .i64 a).wf = true ∧ (Lit.int .i64 b).wf = true := by
  obtain ⟨y0, y1, n, rfl, hl, h0, h1⟩ := trod_struct2 Try.underlying24 h
  have e1 : Try.prog.cellsOf 24 = 2 := by kernel_rfl
  have e2 : Try.prog.cellsOf 3 = 1 := by kernel_rfl
  rw [e1] at hl
  match cs, hl with
  | [c0, c1], _ =>
    have h0' : DataW.trod enc Try.prog W base sp held n 3 [c0] = some y0 := by simpa [e2] using h0
    have h1' : DataW.trod enc Try.prog W base sp held n 3 [c1] = some y1 := by simpa [e2] using h1
    obtain ⟨a, ha, hx, wa⟩ := DataW.trod_int Try.underlying3 h0'
    obtain ⟨b, hb, hy, wb⟩ := DataW.trod_int Try.underlying3 h1'
    obtain rfl : c0 = .int .i64 a := by simpa using ha
    obtain rfl : c1 = .int .i64 b := by simpa using hb
    exact ⟨a, b, rfl, wa, wb⟩
set_option maxRecDepth 100000 in
theorem span_in {W : World} {base : Nat} {sp : Nat → Bool} {held : Bool} {fuel : Nat} {cs : List Value} {x : DataW H × List MemPlace} (h : DataW.trod enc Try.prog W base sp held fuel 26 cs = some x) :
    ∃ a b c d : Int, cs = [.int .i64 a, .int .i64 b, .int .i64 c, .int .i64 d] ∧ (Lit.int .i64 a).wf = true ∧ (Lit.int .i64 b).wf = true ∧ (Lit.int .i64 c).wf = true ∧ (Lit.int .i64 d).wf = true := by
  obtain ⟨y0, y1, n, rfl, hl, h0, h1⟩ := trod_struct2 Try.underlying26 h
  have e1 : Try.prog.cellsOf 24 = 2 := by kernel_rfl
  have e4 : Try.prog.cellsOf 26 = 4 := by kernel_rfl
  rw [e4] at hl
  match cs, hl with
  | [c0, c1, c2, c3], _ =>
    have h0' : DataW.trod enc Try.prog W base sp held n 24 [c0, c1] = some y0 := by simpa [e1] using h0
    have h1' : DataW.trod enc Try.prog W base sp held n 24 [c2, c3] = some y1 := by simpa [e1] using h1
    obtain ⟨a, b, hc, wa, wb⟩ := frac_in h0'
    obtain ⟨c, d, hd, wc, wd⟩ := frac_in h1'
    simp only [List.cons.injEq, and_true] at hc hd
    obtain ⟨rfl, rfl⟩ := hc
    obtain ⟨rfl, rfl⟩ := hd
    exact ⟨a, b, c, d, rfl, wa, wb, wc, wd⟩
set_option maxRecDepth 100000 in
theorem open_frac {W : World} {b0 : Nat} {r : Reach} {base : Nat} {sp : Nat → Bool} {held : Bool} {v : Value} {d : DataW H} {p : List MemPlace}
    (hval : Value.okWide Try.prog W r b0 24 v) (h : DataW.Trod enc Try.prog W base sp held 24 v d p) :
    ∃ a b : Int, v = .agg #[.int .i64 a, .int .i64 b] ∧ (Lit.int .i64 a).wf = true ∧ (Lit.int .i64 b).wf = true := by
  obtain ⟨cs, rfl, hsz⟩ := okWide_struct Try.underlying24 hval
  obtain ⟨fuel, hf⟩ := h
  obtain ⟨a, b, hc, wa, wb⟩ := frac_in hf
  have hc' : cs = #[.int .i64 a, .int .i64 b] := by
    have : cs.toList = [.int .i64 a, .int .i64 b] := hc
    cases cs; simp_all
  exact ⟨a, b, by rw [hc'], wa, wb⟩
set_option maxRecDepth 100000 in
theorem open_span {W : World} {b0 : Nat} {r : Reach} {base : Nat} {sp : Nat → Bool} {held : Bool} {v : Value} {d : DataW H} {p : List MemPlace}
    (hval : Value.okWide Try.prog W r b0 26 v) (h : DataW.Trod enc Try.prog W base sp held 26 v d p) :
    ∃ a b c e : Int, v = .agg #[.int .i64 a, .int .i64 b, .int .i64 c, .int .i64 e] ∧ (Lit.int .i64 a).wf = true ∧ (Lit.int .i64 b).wf = true ∧ (Lit.int .i64 c).wf = true ∧ (Lit.int .i64 e).wf = true := by
  obtain ⟨cs, rfl, hsz⟩ := okWide_struct Try.underlying26 hval
  obtain ⟨fuel, hf⟩ := h
  obtain ⟨a, b, c, e, hc, w⟩ := span_in hf
  have hc' : cs = #[.int .i64 a, .int .i64 b, .int .i64 c, .int .i64 e] := by
    have : cs.toList = _ := hc
    cases cs; simp_all
  exact ⟨a, b, c, e, by rw [hc'], w⟩
set_option maxRecDepth 100000 in
theorem open_camera {W : World} {b0 : Nat} {r : Reach} {base : Nat} {sp : Nat → Bool} {held : Bool} {v : Value} {d : DataW H} {p : List MemPlace}
    (hval : Value.okWide Try.prog W r b0 47 v) (h : DataW.Trod enc Try.prog W base sp held 47 v d p) :
    ∃ a b c e a' b' c' e' : Int, v = .agg #[.int .i64 a, .int .i64 b, .int .i64 c, .int .i64 e, .int .i64 a', .int .i64 b', .int .i64 c', .int .i64 e'] ∧ (Lit.int .i64 a).wf = true ∧ (Lit.int .i64 b).wf = true ∧ (Lit.int .i64 c).wf = true ∧ (Lit.int .i64 e).wf = true ∧ (Lit.int .i64 a').wf = true ∧ (Lit.int .i64 b').wf = true ∧ (Lit.int .i64 c').wf = true ∧ (Lit.int .i64 e').wf = true := by
  obtain ⟨cs, rfl, hsz⟩ := okWide_struct Try.underlying47 hval
  obtain ⟨fuel, hf⟩ := h
  obtain ⟨y0, y1, n, hx, hl, h0, h1⟩ := trod_struct2 Try.underlying47 hf
  have e4 : Try.prog.cellsOf 26 = 4 := by kernel_rfl
  obtain ⟨a, b, c, e, hc, w0, w1, w2, w3⟩ := span_in h0
  obtain ⟨a', b', c', e', hd, w4, w5, w6, w7⟩ := span_in h1
  rw [e4] at hc hd
  have hc' : cs = #[.int .i64 a, .int .i64 b, .int .i64 c, .int .i64 e, .int .i64 a', .int .i64 b', .int .i64 c', .int .i64 e'] := by
    have h2 := List.take_append_drop 4 cs.toList
    have hc2 : cs.toList.take 4 = _ := hc
    have e8 : Try.prog.cellsOf 47 = 8 := by kernel_rfl
    rw [e8] at hl
    have hl2 : cs.toList.length = 8 := hl
    have hd2 : (cs.toList.drop 4).take 4 = _ := hd
    rw [List.take_of_length_le (by rw [List.length_drop]; omega)] at hd2
    rw [hc2, hd2] at h2
    cases cs; simp_all
  exact ⟨a, b, c, e, a', b', c', e', by rw [hc'], w0, w1, w2, w3, w4, w5, w6, w7⟩
end
end Go.Proofs.Ytcafmmhjlecgpaa
