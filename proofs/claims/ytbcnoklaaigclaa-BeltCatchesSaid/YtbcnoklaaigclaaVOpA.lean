/-
  Lists of acts among the arguments of a law.
-/
import Derived.Test.YtbcnoklaaigclaaVOpT
import Derived.Test.YtbcnoklaaigclaaVOpen
import Derived.Test.YtbcnoklaaigclaaVCaL
namespace Go.Proofs.Ytbcnoklaaigclaa
open Go.ChangeShapes Go.WideShapes Go.ChangeAt Go.RowKit
set_option linter.unusedVariables false
set_option linter.unusedSimpArgs false

section
variable {H : Type} {enc : TypeId × Value → H}
/-- The numbers of an act that came in. -/
def wfA (x : Int × Int × Int) : Prop := (0 ≤ x.1 ∧ x.1 ≤ 255) ∧ (0 ≤ x.2.1 ∧ x.2.1 ≤ 255) ∧ (0 ≤ x.2.2 ∧ x.2.2 ≤ 255)
set_option maxRecDepth 100000 in
theorem act_in {W : World} {base : Nat} {sp : Nat → Bool} {held : Bool} {fuel : Nat} {cs : List Value} {x : DataW H × List MemPlace} (h : DataW.trod enc Try.prog W base sp held fuel 91 cs = some x) :
    ∃ x : Int × Int × Int, cs = ac1 x ∧ wfA x := by
  obtain ⟨y0, y1, y2, n, rfl, hl, h0, h1, h2⟩ := Go.Deep.trod_struct3 Try.underlying91 h
  have e4 : Try.prog.cellsOf 91 = 3 := by kernel_rfl
  have e2 : Try.prog.cellsOf 5 = 1 := by kernel_rfl
  rw [e4] at hl
  match cs, hl with
  | [c0, c1, c2], _ =>
    have h0' : DataW.trod enc Try.prog W base sp held n 5 [c0] = some y0 := by simpa [e2] using h0
    have h1' : DataW.trod enc Try.prog W base sp held n 5 [c1] = some y1 := by simpa [e2] using h1
    have h2' : DataW.trod enc Try.prog W base sp held n 5 [c2] = some y2 := by simpa [e2] using h2
    obtain ⟨a, ha, -, wa⟩ := DataW.trod_int Try.underlying5 h0'
    obtain ⟨b, hb, -, wb⟩ := DataW.trod_int Try.underlying5 h1'
    obtain ⟨c, hc, -, wc⟩ := DataW.trod_int Try.underlying5 h2'
    obtain rfl : c0 = .int .u8 a := by simpa using ha
    obtain rfl : c1 = .int .u8 b := by simpa using hb
    obtain rfl : c2 = .int .u8 c := by simpa using hc
    exact ⟨(a, b, c), rfl, bounds_u8 wa, bounds_u8 wb, bounds_u8 wc⟩
set_option maxRecDepth 100000 in
theorem open_acts {W : World} {b0 : Nat} {r : Reach} {v : Value} {d : DataW H} {p : List MemPlace} (hval : Value.okWide Try.prog W r b0 85 v) (h : DataW.Trod enc Try.prog W 0 (fun _ => true) true 85 v d p) :
    ∃ (a : Option Addr) (n c : Nat) (zs : List (Int × Int × Int)), v = .slice a n c ∧ n ≤ c ∧ c ≤ maxLen ∧ RowK 3 ac1 W a n zs ∧ ∀ x ∈ zs, (0 ≤ x.1 ∧ x.1 ≤ 255) ∧ (0 ≤ x.2.1 ∧ x.2.1 ≤ 255) ∧ (0 ≤ x.2.2 ∧ x.2.2 ≤ 255) := by
  obtain ⟨a0, n0, c0, rfl⟩ := okWide_slice Try.underlying85 hval
  obtain ⟨fuel, hf⟩ := h
  obtain ⟨a, n, c, zs, e, q1, q2, q3, q4⟩ := row_els (k := 3) (en := ac1) (wf := wfA) (y := (d, p)) Try.underlying85 (by kernel_rfl) (fun _ => rfl) (by decide) (fun _ _ _ h => act_in h) ⟨_, _, _, rfl⟩ hf
  exact ⟨a, n, c, zs, e, q1, q2, q3, q4⟩
end
end Go.Proofs.Ytbcnoklaaigclaa
