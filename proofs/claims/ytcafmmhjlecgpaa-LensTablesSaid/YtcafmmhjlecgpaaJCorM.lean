/-
  Layer 4: tables: which part a place lies in; the corrected place: plain numbers.
-/
import Derived.Test.YtcafmmhjlecgpaaJTab
import Derived.Test.YtcafmmhjlecgpaaQMath
namespace Go.Proofs.Ytcafmmhjlecgpaa
set_option linter.unusedVariables false
set_option linter.unusedSimpArgs false

def at1 (ks : List (Int × Int)) (i : Nat) : Int := (ks[i]?.getD (0, 0)).1
def to1 (ks : List (Int × Int)) (i : Nat) : Int := (ks[i]?.getD (0, 0)).2
theorem at1_get {ks : List (Int × Int)} {i : Nat} {p : Int × Int} (h : ks[i]? = some p) : at1 ks i = p.1 := by unfold at1; rw [h]; rfl
theorem to1_get {ks : List (Int × Int)} {i : Nat} {p : Int × Int} (h : ks[i]? = some p) : to1 ks i = p.2 := by unfold to1; rw [h]; rfl
theorem knot_get {ks : List (Int × Int)} {i : Nat} (h : i < ks.length) : ks[i]? = some (at1 ks i, to1 ks i) := by
  unfold at1 to1; rw [List.getElem?_eq_getElem h]; rfl
theorem okT.inT {ks : List (Int × Int)} (h : okT ks) {i : Nat} (hi : i < ks.length) : (-4096 ≤ at1 ks i ∧ at1 ks i ≤ 4096) ∧ -4096 ≤ to1 ks i ∧ to1 ks i ≤ 4096 := h.2.1 i _ hi (knot_get hi)
theorem okT.lt {ks : List (Int × Int)} (h : okT ks) {i : Nat} (hi : i + 1 < ks.length) : at1 ks i < at1 ks (i + 1) ∧ to1 ks i < to1 ks (i + 1) := h.2.2 i _ _ hi (knot_get (by omega)) (knot_get hi)
theorem okT.le {ks : List (Int × Int)} (h : okT ks) (i d : Nat) (hi : i + d < ks.length) : at1 ks i ≤ at1 ks (i + d) := by
  induction d with
  | zero => exact Int.le_refl _
  | succ d ih =>
    have := ih (by omega)
    have := (h.lt (i := i + d) (by omega)).1
    show at1 ks i ≤ at1 ks (i + d + 1)
    omega
/-- The part of a table that a place lies in. -/
def Seg (ks : List (Int × Int)) (X D : Int) (i : Nat) : Prop := i + 2 ≤ ks.length ∧ (∀ t, t < i → at1 ks (t + 1) * D < X) ∧ X ≤ at1 ks (i + 1) * D
theorem seg_least (f : Nat → Prop) : ∀ m, f m → ∃ i, i ≤ m ∧ f i ∧ ∀ t, t < i → ¬ f t := by
  intro m
  induction m using Nat.strongRecOn with
  | _ m ih =>
    intro hm
    by_cases h : ∃ t, t < m ∧ f t
    · obtain ⟨t, ht, hf⟩ := h
      obtain ⟨i, h1, h2, h3⟩ := ih t ht hf
      exact ⟨i, by omega, h2, h3⟩
    · exact ⟨m, Nat.le_refl _, hm, fun t ht hf => h ⟨t, ht, hf⟩⟩
theorem seg_ex {ks : List (Int × Int)} (h : okT ks) {X D : Int} (hX : X ≤ at1 ks (ks.length - 1) * D) : ∃ i, Seg ks X D i := by
  have hl := h.1
  obtain ⟨i, h1, h2, h3⟩ := seg_least (fun i => X ≤ at1 ks (i + 1) * D) (ks.length - 2) (by show X ≤ _; rwa [show ks.length - 2 + 1 = ks.length - 1 by omega])
  exact ⟨i, by omega, fun t ht => Int.not_le.1 (h3 t ht), h2⟩
theorem Seg.later {ks : List (Int × Int)} (h : okT ks) {X D : Int} (hD : 0 ≤ D) {i t : Nat} (s : Seg ks X D i) (ht : i ≤ t) (hl : t + 1 < ks.length) : X ≤ at1 ks (t + 1) * D := by
  have h1 := h.le (i + 1) (t - i) (by omega)
  rw [show i + 1 + (t - i) = t + 1 by omega] at h1
  exact Int.le_trans s.2.2 (Int.mul_le_mul_of_nonneg_right h1 hD)
/-- The place may be corrected. -/
def okX (ks : List (Int × Int)) (X D : Int) : Prop := okF X D ∧ D ≤ 1048576 ∧ at1 ks 0 * D ≤ X ∧ X ≤ at1 ks (ks.length - 1) * D
/-- What a corrected place is made of. -/
def segN (ks : List (Int × Int)) (X D : Int) (i : Nat) : Int := to1 ks i * (at1 ks (i + 1) - at1 ks i) * D + (X - at1 ks i * D) * (to1 ks (i + 1) - to1 ks i)
def segD (ks : List (Int × Int)) (D : Int) (i : Nat) : Int := (at1 ks (i + 1) - at1 ks i) * D
theorem mul_bd {a b A B : Int} (h1 : -A ≤ a) (h2 : a ≤ A) (h3 : -B ≤ b) (h4 : b ≤ B) : -(A * B) ≤ a * b ∧ a * b ≤ A * B := by
  have hA : 0 ≤ A := by omega
  have hB : 0 ≤ B := by omega
  have e1 : a.natAbs ≤ A.toNat := by omega
  have e2 : b.natAbs ≤ B.toNat := by omega
  have e3 := Nat.mul_le_mul e1 e2
  rw [← Int.natAbs_mul] at e3
  have e4 : ((A.toNat * B.toNat : Nat) : Int) = A * B := by rw [Int.natCast_mul, Int.toNat_of_nonneg hA, Int.toNat_of_nonneg hB]
  omega
end Go.Proofs.Ytcafmmhjlecgpaa
