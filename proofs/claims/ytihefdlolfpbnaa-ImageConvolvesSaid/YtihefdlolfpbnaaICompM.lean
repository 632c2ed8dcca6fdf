/-
  Layer 2: the kernel of two convolutions.
-/
import Derived.Test.YtihefdlolfpbnaaIConvM
namespace Go.Proofs.Ytihefdlolfpbnaa
open Go.RowKit
set_option linter.unusedVariables false
set_option linter.unusedSimpArgs false

/-- Where the product of two factors goes. -/
def cIdx (AW BW KW : Int) (i j : Nat) : Nat := (((i : Int) / AW + (j : Int) / BW) * KW + (i : Int) % AW + (j : Int) % BW).toNat
/-- The factors after the first products of a row, and after the first rows. -/
def cIn (AW BW KW : Int) (xs ys : List Int) (i : Nat) (ls : List Int) : Nat → List Int
  | 0 => ls
  | j + 1 => (cIn AW BW KW xs ys i ls j).set (cIdx AW BW KW i j) ((cIn AW BW KW xs ys i ls j)[cIdx AW BW KW i j]?.getD 0 + xs[i]?.getD 0 * ys[j]?.getD 0)
def cOut (AW BW KW : Int) (xs ys : List Int) (M mb : Nat) : Nat → List Int
  | 0 => List.replicate M 0
  | i + 1 => cIn AW BW KW xs ys i (cOut AW BW KW xs ys M mb i) mb
def Bd (B : Nat) (ls : List Int) : Prop := ∀ z ∈ ls, -(B : Int) ≤ z ∧ z ≤ (B : Int)
theorem Bd.get {B : Nat} {ls : List Int} (h : Bd B ls) (p : Nat) : -(B : Int) ≤ ls[p]?.getD 0 ∧ ls[p]?.getD 0 ≤ (B : Int) := by
  cases e : ls[p]? with
  | none => simp
  | some z => exact h z (List.mem_of_getElem? e)
theorem Bd.set {B : Nat} {ls : List Int} (h : Bd B ls) (p : Nat) {v : Int} {C : Nat} (hB : B ≤ C) (hv : -(C : Int) ≤ v ∧ v ≤ (C : Int)) : Bd C (ls.set p v) := by
  intro z hz
  rcases List.mem_or_eq_of_mem_set hz with h1 | h1
  · have := h z h1; omega
  · subst h1; exact hv
theorem ff_bd {f g : Int} (hf : okFa f) (hg : okFa g) : -4294967296 ≤ f * g ∧ f * g ≤ 4294967296 := by
  have h0 := Int.natAbs_mul f g
  have h1 : f.natAbs ≤ 65536 := by unfold okFa at hf; omega
  have h2 : g.natAbs ≤ 65536 := by unfold okFa at hg; omega
  have h3 := Nat.mul_le_mul h1 h2
  omega
theorem cIn_length (AW BW KW : Int) (xs ys : List Int) (i : Nat) (ls : List Int) (j : Nat) : (cIn AW BW KW xs ys i ls j).length = ls.length := by
  induction j with
  | zero => rfl
  | succ j ih => unfold cIn; rw [List.length_set, ih]
theorem cOut_length (AW BW KW : Int) (xs ys : List Int) (M mb i : Nat) : (cOut AW BW KW xs ys M mb i).length = M := by
  induction i with
  | zero => exact List.length_replicate
  | succ i ih => unfold cOut; rw [cIn_length, ih]
theorem cIn_bd {AW AH BW BH KW : Int} {xs ys : List Int} (hA : okKn AW AH xs) (hB : okKn BW BH ys) (i : Nat) {ls : List Int} {B : Nat} (h : Bd B ls) (j : Nat) : Bd (B + j * 4294967296) (cIn AW BW KW xs ys i ls j) := by
  induction j with
  | zero => simpa [cIn] using h
  | succ j ih =>
    unfold cIn
    refine ih.set _ (by omega) ?_
    have h1 := ih.get (cIdx AW BW KW i j)
    have h2 := ff_bd (kn_get hA i) (kn_get hB j)
    generalize xs[i]?.getD 0 * ys[j]?.getD 0 = t at h2 ⊢
    generalize (cIn AW BW KW xs ys i ls j)[cIdx AW BW KW i j]?.getD 0 = u at h1 ⊢
    obtain ⟨C, hC⟩ : ∃ C, B + j * 4294967296 = C := ⟨_, rfl⟩
    rw [hC] at h1
    rw [show B + (j + 1) * 4294967296 = C + 4294967296 by rw [← hC, Nat.add_one_mul, Nat.add_assoc]]
    omega
theorem cOut_bd {AW AH BW BH KW : Int} {xs ys : List Int} (hA : okKn AW AH xs) (hB : okKn BW BH ys) (M mb i : Nat) : Bd (i * (mb * 4294967296)) (cOut AW BW KW xs ys M mb i) := by
  induction i with
  | zero => intro z hz; have := List.eq_of_mem_replicate hz; subst this; simp
  | succ i ih =>
    unfold cOut
    have := cIn_bd (KW := KW) hA hB i ih mb
    have e : (i + 1) * (mb * 4294967296) = i * (mb * 4294967296) + mb * 4294967296 := Nat.add_one_mul i _
    rw [e]; exact this
theorem cIn_get {AW AH BW BH KW : Int} {xs ys : List Int} (hA : okKn AW AH xs) (hB : okKn BW BH ys) (M mb i j p : Nat) (hi : i ≤ 24) (hj : j ≤ 25) (hmb : mb ≤ 25) (hp : p < M) :
    ∃ u, (cIn AW BW KW xs ys i (cOut AW BW KW xs ys M mb i) j)[p]? = some u ∧ -4398046511104 ≤ u ∧ u ≤ 4398046511104 := by
  have hl : p < (cIn AW BW KW xs ys i (cOut AW BW KW xs ys M mb i) j).length := by rw [cIn_length, cOut_length]; exact hp
  have h := cIn_bd (KW := KW) hA hB i (cOut_bd (KW := KW) hA hB M mb i) j _ (List.getElem_mem hl)
  have h3 : i * (mb * 4294967296) ≤ 24 * (25 * 4294967296) := Nat.mul_le_mul hi (Nat.mul_le_mul hmb (Nat.le_refl _))
  exact ⟨_, List.getElem?_eq_getElem hl, by omega⟩
/-- The numbers that a walk over two kernels comes to. -/
theorem cIdx_facts {AW AH BW BH KW KH : Int} (hA : 1 ≤ AW ∧ AW ≤ 5) (hA2 : 1 ≤ AH ∧ AH ≤ 5) (hB : 1 ≤ BW ∧ BW ≤ 5) (hB2 : 1 ≤ BH ∧ BH ≤ 5) (hKW : AW + BW - 1 = KW) (hKH : AH + BH - 1 = KH) (h5 : KW ≤ 5) (h6 : KH ≤ 5) (i j : Nat) (hi : (i : Int) < AW * AH) (hj : (j : Int) < BW * BH) :
    ∃ q1 r1 q2 r2 s1 m1 m2 : Int, ((i : Int) / AW = q1 ∧ (i : Int) % AW = r1 ∧ (j : Int) / BW = q2 ∧ (j : Int) % BW = r2) ∧ (q1 + q2 = s1 ∧ s1 * KW = m1 ∧ m1 + r1 = m2 ∧ m2 + r2 = (cIdx AW BW KW i j : Nat)) ∧ (0 ≤ q1 ∧ q1 ≤ 4) ∧ (0 ≤ r1 ∧ r1 ≤ 4) ∧ (0 ≤ q2 ∧ q2 ≤ 4) ∧ (0 ≤ r2 ∧ r2 ≤ 4) ∧ (0 ≤ s1 ∧ s1 ≤ 8) ∧ (0 ≤ m1 ∧ m1 ≤ 100) ∧ (0 ≤ m2 ∧ m2 ≤ 200) ∧ ((cIdx AW BW KW i j : Nat) : Int) < KW * KH := by
  have a1 := Int.ediv_nonneg (show (0 : Int) ≤ i by omega) (show 0 ≤ AW by omega)
  have a2 : (i : Int) / AW < AH := Int.ediv_lt_of_lt_mul (by omega) (by rw [Int.mul_comm]; exact hi)
  have a3 := Int.emod_nonneg (i : Int) (show AW ≠ 0 by omega)
  have a4 := Int.emod_lt_of_pos (i : Int) (show 0 < AW by omega)
  have b1 := Int.ediv_nonneg (show (0 : Int) ≤ j by omega) (show 0 ≤ BW by omega)
  have b2 : (j : Int) / BW < BH := Int.ediv_lt_of_lt_mul (by omega) (by rw [Int.mul_comm]; exact hj)
  have b3 := Int.emod_nonneg (j : Int) (show BW ≠ 0 by omega)
  have b4 := Int.emod_lt_of_pos (j : Int) (show 0 < BW by omega)
  have c1 := Int.mul_nonneg (show 0 ≤ (i : Int) / AW + (j : Int) / BW by omega) (show 0 ≤ KW by omega)
  have c2 := Int.mul_le_mul_of_nonneg_right (show (i : Int) / AW + (j : Int) / BW ≤ KH - 1 by omega) (show 0 ≤ KW by omega)
  rw [Int.sub_mul, Int.one_mul, Int.mul_comm KH KW] at c2
  have c3 := Int.mul_le_mul (show (i : Int) / AW + (j : Int) / BW ≤ 8 by omega) h5 (by omega) (by omega)
  have c4 : ((cIdx AW BW KW i j : Nat) : Int) = ((i : Int) / AW + (j : Int) / BW) * KW + (i : Int) % AW + (j : Int) % BW := by unfold cIdx; omega
  exact ⟨_, _, _, _, _, _, _, ⟨rfl, rfl, rfl, rfl⟩, ⟨rfl, rfl, rfl, c4.symm⟩, by omega, by omega, by omega, by omega, by omega, by omega, by omega, by rw [c4]; omega⟩
/-- A list whose first numbers are brought into a range. -/
def mixd (ls : List Int) (i : Nat) : List Int := (ls.take i).map (fun z => inR z (-65536) 65536) ++ ls.drop i
theorem mixd_zero (ls : List Int) : mixd ls 0 = ls := rfl
theorem mixd_all (ls : List Int) : mixd ls ls.length = ls.map (fun z => inR z (-65536) 65536) := by unfold mixd; simp
theorem mixd_length (ls : List Int) (i : Nat) : (mixd ls i).length = ls.length := by unfold mixd; simp; omega
theorem mixd_at (ls : List Int) {i : Nat} (h : i < ls.length) : (mixd ls i)[i]? = ls[i]? := by
  unfold mixd
  rw [List.getElem?_append_right (by simp; omega), List.getElem?_drop]
  congr 1; simp; omega
theorem mixd_set (ls : List Int) {i : Nat} {z : Int} (hz : ls[i]? = some z) : (mixd ls i).set i (inR z (-65536) 65536) = mixd ls (i + 1) := by
  have hi : i < ls.length := by
    rcases Nat.lt_or_ge i ls.length with h | h
    · exact h
    · rw [List.getElem?_eq_none h] at hz; cases hz
  have e1 : ls.drop i = z :: ls.drop (i + 1) := by rw [List.drop_eq_getElem_cons hi]; congr 1; rw [List.getElem?_eq_getElem hi] at hz; exact Option.some.inj hz
  unfold mixd
  rw [e1, List.set_append_right _ _ (by simp; omega), List.length_map, List.length_take, show i - min i ls.length = 0 by omega, List.take_add_one, hz, List.map_append, List.append_assoc]
  rfl
/-- The kernel of two convolutions. -/
def compK (AW AH BW BH : Int) (xs ys : List Int) : List Int := (cOut AW BW (AW + BW - 1) xs ys ((AW + BW - 1) * (AH + BH - 1)).toNat ys.length xs.length).map (fun z => inR z (-65536) 65536)
end Go.Proofs.Ytihefdlolfpbnaa
