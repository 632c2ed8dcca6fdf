/-
  What these laws ask besides of the texts that the laws of this seat share.
-/
import Derived.WalkKit
import Derived.Test.YtbdcmdofmokoeaaR1
import Derived.Test.YtbdcmdofmokoeaaR2
import Derived.Test.YtbdcmdofmokoeaaR3
import Derived.Test.YtbdcmdofmokoeaaR4
import Derived.Test.YtbdcmdofmokoeaaR5
import Derived.Test.YtbdcmdofmokoeaaR6
import Derived.Test.YtbdcmdofmokoeaaR7
import Derived.Test.YtbdcmdofmokoeaaR8
import Derived.Test.YtbdcmdofmokoeaaR9
import Derived.Test.YtbdcmdofmokoeaaR10
import Derived.Test.YtbdcmdofmokoeaaR11
namespace Go.Proofs.Ytbdcmdofmokoeaa
open Go.ChangeShapes Go.WideShapes Go.ChangeAt Go.RowKit
set_option linter.unusedVariables false
set_option linter.unusedSimpArgs false

section
variable {H : Type} {enc : TypeId × Value → H}
set_option maxRecDepth 100000 in
theorem frac_in {W : World} {base : Nat} {sp : Nat → Bool} {held : Bool} {fuel : Nat} {cs : List Value} {x : DataW H × List MemPlace} (h : DataW.trod enc Try.prog W base sp held fuel 23 cs = some x) :
    ∃ a b : Int, cs = [.int .i64 a, .int .i64 b] ∧ (Lit.int .i64 a).wf = true ∧ (Lit.int .i64 b).wf = true := by
  obtain ⟨y0, y1, n, rfl, hl, h0, h1⟩ := trod_struct2 Try.underlying23 h
  have e1 : Try.prog.cellsOf 23 = 2 := by kernel_rfl
  have e2 : Try.prog.cellsOf 3 = 1 := by kernel_rfl
  rw [e1] at hl
  match cs, hl with
  | [c0, c1], _ =>
    have h0' : DataW.trod enc Try.prog W base sp held n 3 [c0] = some y0 := by simpa [e2] using h0
    have h1' : DataW.trod enc Try.prog W base sp held n 3 [c1] = some y1 := by simpa [e2] using h1
    obtain ⟨a, ha, hx, wa⟩ := DataW.trod_int Try.underlying3 h0'
    obtain ⟨b, hb, hy, wb⟩ := DataW.trod_int Try.underlying3 h1'
    obtain rfl : c0 = .int .i64 a := by simpa using ha
    obtain rfl : c1 = .int .i64 b := by simpa using hb
    exact ⟨a, b, rfl, wa, wb⟩
set_option maxRecDepth 100000 in
theorem span_in {W : World} {base : Nat} {sp : Nat → Bool} {held : Bool} {fuel : Nat} {cs : List Value} {x : DataW H × List MemPlace} (h : DataW.trod enc Try.prog W base sp held fuel 35 cs = some x) :
    ∃ a b c d : Int, cs = [.int .i64 a, .int .i64 b, .int .i64 c, .int .i64 d] ∧ (Lit.int .i64 a).wf = true ∧ (Lit.int .i64 b).wf = true ∧ (Lit.int .i64 c).wf = true ∧ (Lit.int .i64 d).wf = true := by
  obtain ⟨y0, y1, n, rfl, hl, h0, h1⟩ := trod_struct2 Try.underlying35 h
  have e1 : Try.prog.cellsOf 23 = 2 := by kernel_rfl
  have e4 : Try.prog.cellsOf 35 = 4 := by kernel_rfl
  rw [e4] at hl
  match cs, hl with
  | [c0, c1, c2, c3], _ =>
    have h0' : DataW.trod enc Try.prog W base sp held n 23 [c0, c1] = some y0 := by simpa [e1] using h0
    have h1' : DataW.trod enc Try.prog W base sp held n 23 [c2, c3] = some y1 := by simpa [e1] using h1
    obtain ⟨a, b, hc, wa, wb⟩ := frac_in h0'
    obtain ⟨c, d, hd, wc, wd⟩ := frac_in h1'
    simp only [List.cons.injEq, and_true] at hc hd
    obtain ⟨rfl, rfl⟩ := hc
    obtain ⟨rfl, rfl⟩ := hd
    exact ⟨a, b, c, d, rfl, wa, wb, wc, wd⟩
set_option maxRecDepth 100000 in
theorem open_frac {W : World} {b0 : Nat} {r : Reach} {base : Nat} {sp : Nat → Bool} {held : Bool} {v : Value} {d : DataW H} {p : List MemPlace}
    (hval : Value.okWide Try.prog W r b0 23 v) (h : DataW.Trod enc Try.prog W base sp held 23 v d p) :
    ∃ a b : Int, v = .agg #[.int .i64 a, .int .i64 b] ∧ (Lit.int .i64 a).wf = true ∧ (Lit.int .i64 b).wf = true := by
  obtain ⟨cs, rfl, hsz⟩ := okWide_struct Try.underlying23 hval
  obtain ⟨fuel, hf⟩ := h
  obtain ⟨a, b, hc, wa, wb⟩ := frac_in hf
  have hc' : cs = #[.int .i64 a, .int .i64 b] := by
    have : cs.toList = [.int .i64 a, .int .i64 b] := hc
    cases cs; simp_all
  exact ⟨a, b, by rw [hc'], wa, wb⟩
set_option maxRecDepth 100000 in
theorem open_span {W : World} {b0 : Nat} {r : Reach} {base : Nat} {sp : Nat → Bool} {held : Bool} {v : Value} {d : DataW H} {p : List MemPlace}
    (hval : Value.okWide Try.prog W r b0 35 v) (h : DataW.Trod enc Try.prog W base sp held 35 v d p) :
    ∃ a b c e : Int, v = .agg #[.int .i64 a, .int .i64 b, .int .i64 c, .int .i64 e] ∧ (Lit.int .i64 a).wf = true ∧ (Lit.int .i64 b).wf = true ∧ (Lit.int .i64 c).wf = true ∧ (Lit.int .i64 e).wf = true := by
  obtain ⟨cs, rfl, hsz⟩ := okWide_struct Try.underlying35 hval
  obtain ⟨fuel, hf⟩ := h
  obtain ⟨a, b, c, e, hc, w⟩ := span_in hf
  have hc' : cs = #[.int .i64 a, .int .i64 b, .int .i64 c, .int .i64 e] := by
    have : cs.toList = _ := hc
    cases cs; simp_all
  exact ⟨a, b, c, e, by rw [hc'], w⟩
end
end Go.Proofs.Ytbdcmdofmokoeaa

namespace Go.Proofs.Ytbdcmdofmokoeaa

instance (q : Rat) : Decidable (fits q) := inferInstanceAs (Decidable (_ ∧ _))
instance (a b : Int) : Decidable (okF a b) := inferInstanceAs (Decidable (_ ∧ _))
theorem ordQ_eq {q r : Rat} : ordQ q r = 0 ↔ q = r := by
  rw [← (cmp_parts q r).2.1]; unfold ordQ; exact Int.sign_eq_zero_iff_zero
theorem ordQ_bounds (q r : Rat) : -1 ≤ ordQ q r ∧ ordQ q r ≤ 1 := by
  unfold ordQ
  rcases Int.lt_trichotomy (fn q * fd r - fn r * fd q) 0 with h | h | h
  · rw [Int.sign_eq_neg_one_of_neg h]; omega
  · rw [h]; decide
  · rw [Int.sign_eq_one_of_pos h]; omega

end Go.Proofs.Ytbdcmdofmokoeaa

namespace Go.Proofs.Ytbdcmdofmokoeaa
open Go.RowKit
set_option linter.unusedVariables false
set_option linter.unusedSimpArgs false

theorem swp_get (ks : List (Int × Int)) (i : Nat) : (ks.map swp)[i]? = ks[i]?.map swp := by simp
theorem swp_swp (ks : List (Int × Int)) : (ks.map swp).map swp = ks := by
  induction ks with
  | nil => rfl
  | cons p ks ih => simp only [List.map_cons, ih]; rfl
theorem okT_swp {ks : List (Int × Int)} : okT (ks.map swp) ↔ okT ks := by
  have key : ∀ ks : List (Int × Int), okT ks → okT (ks.map swp) := by
    intro ks h
    refine ⟨by simpa using h.1, fun i p hi hp => ?_, fun i p q hi hp hq => ?_⟩
    · rw [swp_get] at hp
      rw [List.length_map] at hi
      obtain ⟨r, hr, rfl⟩ := Option.map_eq_some_iff.1 hp
      have := h.2.1 i r hi hr
      exact ⟨this.2, this.1⟩
    · rw [swp_get] at hp hq
      rw [List.length_map] at hi
      obtain ⟨r, hr, rfl⟩ := Option.map_eq_some_iff.1 hp
      obtain ⟨s, hs, rfl⟩ := Option.map_eq_some_iff.1 hq
      have := h.2.2 i r s hi hr hs
      exact ⟨this.2, this.1⟩
  refine ⟨fun h => ?_, key ks⟩
  have := key _ h
  rwa [swp_swp] at this
end Go.Proofs.Ytbdcmdofmokoeaa

namespace Go.Proofs.Ytbdcmdofmokoeaa
open Go.RowKit Go.Shelf
set_option linter.unusedVariables false
set_option linter.unusedSimpArgs false

instance : DecidableEq (Rat × Rat) := inferInstance
theorem ckV_yes {vs : List Vw} (h1 : vs.length ≤ 12) (h2 : ∀ v ∈ vs, InV v) : ckV vs = 0 := (if_neg (by omega)).trans (if_pos h2)
end Go.Proofs.Ytbdcmdofmokoeaa

