/-
  The document's own answers, layer 1: what its calls return of numbers and of fractions.
-/
import Derived.Test.YtcafmmhjlecgpaaRef8
import Derived.Test.YtcafmmhjlecgpaaApi
namespace Go.Proofs.Ytcafmmhjlecgpaa
open Go.RowKit

theorem fits_neg (r : Rat) (hr : fits r) : fits (-r) := by
  unfold fits at *
  have e1 : fn (-r) = -fn r := rfl
  have e2 : fd (-r) = fd r := rfl
  omega

/-- Two fractions one of which is not valid: what Valid says of them in turn. -/
structure Bad2 (a b c d : Int) (p q : Bool) : Prop where
  one : ∀ w, Calls Try.prog 88 #[.agg #[.int .i64 a, .int .i64 b]] w fun e w' => e = .returned (.bool p) ∧ Below w.heap.size w w'
  two : ∀ w, Calls Try.prog 88 #[.agg #[.int .i64 c, .int .i64 d]] w fun e w' => e = .returned (.bool q) ∧ Below w.heap.size w w'
  no : p = false ∨ (p = true ∧ q = false)
theorem valid_cases (a b : Int) (ha1 : -9223372036854775808 ≤ a) (ha2 : a ≤ 9223372036854775807) : ∃ p : Bool, (p = true ↔ okF a b) ∧ ∀ w, Calls Try.prog 88 #[.agg #[.int .i64 a, .int .i64 b]] w fun e w' => e = .returned (.bool p) ∧ Below w.heap.size w w' := by
  by_cases h : okF a b
  · obtain ⟨q, fq, rfl, rfl⟩ := (okF_iff _ _).1 h
    exact ⟨true, ⟨fun _ => h, fun _ => rfl⟩, rvalid_true q fq⟩
  · exact ⟨false, ⟨fun k => Bool.noConfusion k, fun k => absurd k h⟩, rvalid_false a b h ha1 ha2⟩
theorem bad2 (a b c d : Int) (ha1 : -9223372036854775808 ≤ a) (ha2 : a ≤ 9223372036854775807) (hc1 : -9223372036854775808 ≤ c) (hc2 : c ≤ 9223372036854775807) (h : ¬ (okF a b ∧ okF c d)) : ∃ p q, Bad2 a b c d p q := by
  obtain ⟨p, hp, h1⟩ := valid_cases a b ha1 ha2
  obtain ⟨q, hq, h2⟩ := valid_cases c d hc1 hc2
  refine ⟨p, q, h1, h2, ?_⟩
  cases p
  · exact .inl rfl
  · cases q
    · exact .inr ⟨rfl, rfl⟩
    · exact absurd ⟨hp.1 rfl, hq.1 rfl⟩ h

end Go.Proofs.Ytcafmmhjlecgpaa
