/-
  Layer 4: what a fulfilled pair says of the spans (mathematics).
-/
import Derived.Test.YtbdcmdofmokoeaaQKLawHoR
import Derived.Test.YtbdcmdofmokoeaaQKLawAdd2
namespace Go.Proofs.Ytbdcmdofmokoeaa
open Go.RowKit Go.Shelf
set_option linter.unusedVariables false
set_option linter.unusedSimpArgs false

theorem rat_cancel {a b c : Rat} (hc : 0 < c) (h : a * c = b * c) : a = b := by
  have q : (a - b) * c = 0 := by grind
  rcases Rat.mul_eq_zero.1 q with h | h <;> grind
theorem mkR_eq_of {n d : Int} {q : Rat} (hd : 0 < d) (h : q * (d : Rat) = (n : Rat)) : mkR n d = q :=
  rat_cancel (c := (d : Rat)) (by exact_mod_cast hd) (by rw [div_spec (by omega), h])
theorem ful_of_int {N M D : Int} {vs : List Vw} (hD : 1 ≤ D) (h : ∀ v ∈ vs, FulI N M D v) : Ful vs (mkR N D) (mkR M D) := by
  have e1 : mkR N D * (D : Rat) = (N : Rat) := div_spec (by omega)
  have e2 : mkR M D * (D : Rat) = (M : Rat) := div_spec (by omega)
  have hD0 : (0 : Rat) < (D : Rat) := by exact_mod_cast (show (0 : Int) < D by omega)
  obtain ⟨f, hf⟩ : ∃ f, mkR N D = f := ⟨_, rfl⟩
  obtain ⟨c, hc⟩ : ∃ c, mkR M D = c := ⟨_, rfl⟩
  rw [hf] at e1 ⊢
  rw [hc] at e2 ⊢
  intro v hv
  obtain ⟨a, b⟩ := h v hv
  have a' : (v.2.2.1 : Rat) * D * v.2.1 ≤ N * v.1 + M * v.2.1 := by exact_mod_cast a
  have b' : (N : Rat) * v.1 + M * v.2.1 ≤ v.2.2.2 * D * v.2.1 := by exact_mod_cast b
  rw [← e1, ← e2] at a' b'
  constructor
  · refine (scaleLe hD0).1 ?_
    grind
  · refine (scaleLe hD0).1 ?_
    grind
theorem bdI_ok {vs : List Vw} (hV : ∀ u ∈ vs, InV u) {f c : Rat} (hf : Ful vs f c) : bdI vs = -1 := by
  have hle := bdN_le vs
  have h1 : bdN vs = vs.length := by
    rcases Nat.lt_or_ge (bdN vs) vs.length with q | q
    · have := bdN_yes hV (Nat.le_refl _) q
      rw [Option.isNone_iff_eq_none, foc_none (fun u hu => hV u (List.mem_of_mem_take hu))] at this
      exact absurd ⟨f, c, hf.of fun u hu => List.mem_of_mem_take hu⟩ this
    · omega
  unfold bdI; rw [if_pos h1]
/-- Fulfilled views of more than one tangent have a camera; what its spans hold. -/
theorem hol_foc {vs : List Vw} (hV : ∀ u ∈ vs, InV u) (ha : ¬ Alk vs) {f c : Rat} (hf : Ful vs f c) (hr : -MX ≤ f ∧ f ≤ MX) : ∃ L H, focS vs = some (L, H) ∧ ((L, H) : Rat × Rat) ≠ allM ∧ fits L ∧ fits H ∧ L ≤ f ∧ f ≤ H := by
  cases hs : focS vs with
  | none => exact absurd ⟨f, c, hf⟩ ((foc_none hV).1 hs)
  | some p =>
    obtain ⟨L, H⟩ := p
    obtain ⟨fL, fH, -, hp⟩ := foc_some hV hs
    have := (hp f).2 ⟨hr, c, hf⟩
    exact ⟨L, H, rfl, fun h => ha ((foc_loose hV).1 (by rw [hs, h])).1, fL, fH, this.1, this.2⟩
theorem hol_pla {vs : List Vw} (hV : ∀ u ∈ vs, InV u) {x z : Int} (hg : InG x z) {f c p : Rat} (hf : Ful vs f c) (hp : p = f * mkR x z + c) (hr : -MX ≤ p ∧ p ≤ MX) : ∃ A B, plaS x z vs = some (A, B) ∧ fits A ∧ fits B ∧ A ≤ p ∧ p ≤ B := by
  cases hs : plaS x z vs with
  | none => exact absurd ⟨f, c, hf⟩ ((pla_none hV hg).1 hs)
  | some q =>
    obtain ⟨A, B⟩ := q
    obtain ⟨fA, fB, -, hq⟩ := pla_some hV hg hs
    have e : p - f * mkR x z = c := by grind
    have := (hq p).2 ⟨hr, f, by rw [e]; exact hf⟩
    exact ⟨A, B, rfl, fA, fB, this.1, this.2⟩
theorem in_yes {A B : Rat} (fA : fits A) (fB : fits B) {n d : Int} (d0 : d ≠ 0) (d1 : -4611686018427387903 ≤ d) (d2 : d ≤ 4611686018427387903) (n1 : -4611686018427387903 ≤ n) (n2 : n ≤ 4611686018427387903) (h1 : A ≤ mkR n d) (h2 : mkR n d ≤ B) (w : World) :
    Calls Try.prog 38 #[.agg (spC (A, B)), .agg #[.int .i64 (fn (mkR n d)), .int .i64 (fd (mkR n d))]] w fun e w' => e = .returned (.tuple #[.bool true, .int .i64 0]) ∧ Below w.heap.size w w' := by
  have := in_q A B (mkR n d) fA fB (mkR_fits' n d d0 d1 d2 n1 n2) (Rat.le_trans h1 h2) w
  rwa [hasQ_iff.2 ⟨h1, h2⟩] at this
end Go.Proofs.Ytbdcmdofmokoeaa
