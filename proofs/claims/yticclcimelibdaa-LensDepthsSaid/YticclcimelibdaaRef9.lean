/-
  The document's own answers, layer 1: what its calls return of numbers and of fractions.
-/
import Derived.Test.YticclcimelibdaaRef8
import Derived.Test.YticclcimelibdaaApi
namespace Go.Proofs.Yticclcimelibdaa
open Go.RowKit

set_option maxHeartbeats 400000 in
theorem rneg_q (r : Rat) (hr : fits r) (w : World) :
    Calls Try.prog 116 #[.agg #[.int .i64 (fn r), .int .i64 (fd r)]] w fun e w' => e = .returned (.agg #[.int .i64 (fn (-r)), .int .i64 (fd (-r))]) ∧ Below w.heap.size w w' := by
  have e1 : fn (-r) = -fn r := rfl
  have e2 : fd (-r) = fd r := rfl
  have e3 : IntKind.i64.wrap (-fn r) = -fn r := IntWalk.i64_in _ (by unfold fits at hr; omega)
  rw [e1, e2]
  clear hr e1 e2
  go_enter Try.func116, Try.ntmps116
  go_wp2
  exact bodyPost_ret (v := .agg #[.int .i64 (-fn r), .int .i64 (fd r)]) (by simp only [results, Try.results116]; go_simp) rfl ⟨rfl, by (repeat' (first | (with_reducible exact Below.refl _ _) | (with_reducible assumption) | (with_reducible refine belowThru ?_ (by assumption)) | (with_reducible refine belowAlloc ?_) | (with_reducible refine Below.setCell ?_ (by first | omega | (simp; done) | (simp; omega)) _) | (with_reducible refine Below.drew ?_) | (with_reducible refine below_drewN ?_ _)))⟩
theorem fits_neg (r : Rat) (hr : fits r) : fits (-r) := by
  unfold fits at *
  have e1 : fn (-r) = -fn r := rfl
  have e2 : fd (-r) = fd r := rfl
  omega

/-- Two fractions one of which is not valid: what Valid says of them in turn. -/
structure Bad2 (a b c d : Int) (p q : Bool) : Prop where
  one : ∀ w, Calls Try.prog 109 #[.agg #[.int .i64 a, .int .i64 b]] w fun e w' => e = .returned (.bool p) ∧ Below w.heap.size w w'
  two : ∀ w, Calls Try.prog 109 #[.agg #[.int .i64 c, .int .i64 d]] w fun e w' => e = .returned (.bool q) ∧ Below w.heap.size w w'
  no : p = false ∨ (p = true ∧ q = false)
theorem valid_cases (a b : Int) (ha1 : -9223372036854775808 ≤ a) (ha2 : a ≤ 9223372036854775807) : ∃ p : Bool, (p = true ↔ okF a b) ∧ ∀ w, Calls Try.prog 109 #[.agg #[.int .i64 a, .int .i64 b]] w fun e w' => e = .returned (.bool p) ∧ Below w.heap.size w w' := by
  by_cases h : okF a b
  · obtain ⟨q, fq, rfl, rfl⟩ := (okF_iff _ _).1 h
    exact ⟨true, ⟨fun _ => h, fun _ => rfl⟩, rvalid_true q fq⟩
  · exact ⟨false, ⟨fun k => Bool.noConfusion k, fun k => absurd k h⟩, rvalid_false a b h ha1 ha2⟩
end Go.Proofs.Yticclcimelibdaa
