/-
  More of rational numbers: what Make makes.
-/
import Derived.Test.YtceccppmhfjklabDoorQMath
namespace Go.Proofs.YtceccppmhfjklabDoor
theorem mkR_self (q : Rat) : mkR (fn q) (fd q) = q := by
  unfold mkR fn fd; exact Rat.num_divInt_den q
theorem mkR_eq (a b c d : Int) (hb : b ≠ 0) (hd : d ≠ 0) : mkR a b = mkR c d ↔ a * d = c * b := Rat.divInt_eq_divInt_iff hb hd
theorem mkR_cross (a b : Int) (hb : b ≠ 0) : fn (mkR a b) * b = a * fd (mkR a b) := by
  have h := (mkR_eq (fn (mkR a b)) (fd (mkR a b)) a b (fd_ne _) hb).1 (mkR_self _)
  exact h
theorem mkR_fits' (n d : Int) (d0 : d ≠ 0) (d1 : -4611686018427387903 ≤ d) (d2 : d ≤ 4611686018427387903) (n1 : -4611686018427387903 ≤ n) (n2 : n ≤ 4611686018427387903) : fits (mkR n d) := by
  obtain ⟨g, hg⟩ : ∃ g, g = gcdI (n.natAbs : Int) (d.natAbs : Int) := ⟨_, rfl⟩
  obtain ⟨p1, p2⟩ := mkR_parts n d g d0 hg
  have g1 : 0 < g := by rw [hg]; exact gcdI_pos_right _ _ (by omega)
  have a0 := Int.ediv_nonneg (show 0 ≤ (n.natAbs : Int) by omega) (show 0 ≤ g by omega)
  have a1 := Int.ediv_le_self g (show 0 ≤ (n.natAbs : Int) by omega)
  have b1 := Int.ediv_le_self g (show 0 ≤ (d.natAbs : Int) by omega)
  unfold fits
  rw [p1, p2]
  have sn : n.sign = -1 ∨ n.sign = 0 ∨ n.sign = 1 := by
    rcases Int.lt_trichotomy n 0 with h | h | h
    · exact .inl (Int.sign_eq_neg_one_of_neg h)
    · subst h; exact .inr (.inl rfl)
    · exact .inr (.inr (Int.sign_eq_one_of_pos h))
  have sd : d.sign = -1 ∨ d.sign = 1 := by
    rcases Int.lt_trichotomy d 0 with h | h | h
    · exact .inl (Int.sign_eq_neg_one_of_neg h)
    · exact absurd h d0
    · exact .inr (Int.sign_eq_one_of_pos h)
  rcases sn with h | h | h <;> rcases sd with k | k <;> rw [h, k] <;> omega
end Go.Proofs.YtceccppmhfjklabDoor
