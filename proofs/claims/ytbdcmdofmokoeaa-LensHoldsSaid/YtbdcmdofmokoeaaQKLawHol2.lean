/-
  LensHolds: the law.
-/
import Derived.Test.YtbdcmdofmokoeaaQKLawHol
import Derived.Test.YtbdcmdofmokoeaaQKLawAdd2
namespace Go.Proofs.Ytbdcmdofmokoeaa
open Go.RowKit Go.Shelf
set_option linter.unusedVariables false
set_option linter.unusedSimpArgs false

set_option maxRecDepth 100000 in
set_option maxHeartbeats 4000000 in
theorem lawHol_true (a : Option Addr) (n c : Nat) (vs : List Vw) (f g d x z : Int) (hc : n ≤ c) (hf : -32768 ≤ f ∧ f ≤ 32767) (hg : -32768 ≤ g ∧ g ≤ 32767) (hd : -32768 ≤ d ∧ d ≤ 32767) (w : World) (hR : VRow w a n vs) :
    Calls Try.prog 8 #[.slice a n c, .int .i16 f, .int .i16 g, .int .i16 d, .int .i64 x, .int .i64 z] w fun e w' => e = .returned (.bool true) ∧ Below w.heap.size w w' := by
  have HAl := Lib.hid alive_true
  have HR := Lib.hid hR
  have hl := hR.1
  by_cases g0 : (12 : Int) < (n : Int)
  · exact hol_g0 a n c f g d x z w (decide_eq_true g0) HAl
  have p0 := decide_eq_false g0
  by_cases g1 : x < -1000
  · exact hol_g1 a n c f g d x z w p0 (decide_eq_true g1) HAl
  have p1 := decide_eq_false g1
  by_cases g2 : 1000 < x
  · exact hol_g2 a n c f g d x z w p0 p1 (decide_eq_true g2) HAl
  have p2 := decide_eq_false g2
  by_cases g3 : z < 1
  · exact hol_g3 a n c f g d x z w p0 p1 p2 (decide_eq_true g3) HAl
  have p3 := decide_eq_false g3
  by_cases g4 : 1000 < z
  · exact hol_g4 a n c f g d x z w p0 p1 p2 p3 (decide_eq_true g4) HAl
  have p4 := decide_eq_false g4
  have hn : n ≤ 12 := by omega
  have hxz : InG x z := ⟨by omega, by omega⟩
  have HP := Lib.hid (pair_any f g d hf hg hd)
  obtain ⟨D, hD⟩ : ∃ D, max d 1 = D := ⟨_, rfl⟩
  have hD1 : 1 ≤ D ∧ D ≤ 32767 := by omega
  rw [hD] at HP
  have hs : SmP f g D := ⟨by omega, by omega, by omega⟩
  by_cases hV : ∀ v ∈ vs, InV v
  · have HV0 := Lib.hid hV
    have HL : ∀ W : World, VRow W a n vs → _ := fun W h => all_any f g D a n c vs hs hn hV W h
    by_cases hA : ∀ v ∈ vs, FulI f g D v
    · rw [decide_eq_true hA] at HL
      by_cases hk : Alk vs
      · have HK : ∀ W : World, VRow W a n vs → Calls Try.prog 44 #[.slice a n c] W fun e W' => e = .returned (.bool true) ∧ Below W.heap.size W W' := fun W h => (alike_any a n c vs hn hV W h).mono fun e W' ⟨⟨r, h1, h2⟩, h3⟩ => ⟨by rw [h1, h2.2 hk], h3⟩
        exact hol_alk a n c vs f g d x z f g D 0 0 0 0 0 0 0 0 0 0 0 0 0 0 0 0 0 0 w hn p0 p1 p2 p3 p4 HR HAl HP HV0 (Lib.hid HL) (Lib.hid HK)
      · have HK : ∀ W : World, VRow W a n vs → Calls Try.prog 44 #[.slice a n c] W fun e W' => e = .returned (.bool false) ∧ Below W.heap.size W W' := fun W h => (alike_any a n c vs hn hV W h).mono fun e W' ⟨⟨r, h1, h2⟩, h3⟩ => ⟨by
          have hr : r = false := by cases r; rfl; exact absurd (h2.1 rfl) hk
          rw [h1, hr], h3⟩
        have hF := ful_of_int hD1.1 hA
        have b1 := fits_range (mkR_fits' f D (by omega) (by omega) (by omega) (by omega) (by omega))
        obtain ⟨L, H, ef, hne, fL, fH, i1, i2⟩ := hol_foc hV hk hF b1
        have hz0 : mkR 0 1 = 0 := mkR_eq_of (by decide) (by simp)
        have b2 := fits_range (mkR_fits' g D (by omega) (by omega) (by omega) (by omega) (by omega))
        obtain ⟨A, B, ep, fA, fB, i3, i4⟩ := hol_pla hV (show InG 0 1 by decide) hF (p := mkR g D) (by rw [hz0]; grind) b2
        have m1 := mul_bound f x 32768 1000 (by omega) (by omega) (by omega) (by omega)
        have m2 := mul_bound g z 32768 1000 (by omega) (by omega) (by omega) (by omega)
        have m3 := mul_bound D z 32768 1000 (by omega) (by omega) (by omega) (by omega)
        have m4 : 0 < D * z := Int.mul_pos (by omega) (by omega)
        have e3 : mkR (f * x + g * z) (D * z) = mkR f D * mkR x z + mkR g D := by
          refine mkR_eq_of m4 ?_
          have q1 : mkR f D * (D : Rat) = (f : Rat) := div_spec (by omega)
          have q2 : mkR g D * (D : Rat) = (g : Rat) := div_spec (by omega)
          have q3 : mkR x z * (z : Rat) = (x : Rat) := div_spec (by omega)
          push_cast
          rw [← q1, ← q2, ← q3]; grind
        have b3 := fits_range (mkR_fits' (f * x + g * z) (D * z) (by omega) (by omega) (by omega) (by omega) (by omega))
        obtain ⟨P, Q, er, fP, fQ, i5, i6⟩ := hol_pla hV hxz hF e3 b3
        have hck : ckV vs = 0 := ckV_yes (by omega) hV
        have efo : foE (focS vs) = 0 := by rw [ef]; exact if_neg hne
        have eca : caE vs = 0 := (if_neg (fun h => h hck)).trans efo
        have ecv : caV vs = cam (L, H) (A, B) := by unfold caV; rw [if_pos eca]; unfold caC; rw [ef, ep]
        have HC : ∀ W : World, VRow W a n vs → _ := fun W h => calib_any a n c vs W h
        rw [eca, ecv] at HC
        have era : raE x z vs = 0 := (if_neg (fun h => h hck)).trans ((if_neg (fun h => h hxz)).trans efo)
        have erc : raC x z vs = spC (P, Q) := by unfold raC; rw [if_pos era, er]; rfl
        have HG : ∀ W : World, VRow W a n vs → _ := fun W h => range_any a n c x z vs W h
        rw [era, erc] at HG
        have HF : ∀ W : World, VRow W a n vs → _ := fun W h => bad_any a n c vs hc W h
        rw [hck, show baV vs = -1 by rw [show baV vs = bdI vs from if_pos hck]; exact bdI_ok hV hF] at HF
        exact hol_yes a n c vs f g d x z f g D (fn L) (fd L) (fn H) (fd H) (fn A) (fd A) (fn B) (fd B) (fn P) (fd P) (fn Q) (fd Q) _ _ _ _ _ _ w hn p0 p1 p2 p3 p4
          (wr64 _ (by omega)) (wr64 _ (by omega)) (wr64 _ (by omega)) (wr64 _ (by omega)) HR HAl HP HV0 (Lib.hid HL) (Lib.hid HK) (Lib.hid HC) (Lib.hid HG)
          (Lib.hid fun W => at_any f D (by omega) (by omega) (by omega) (by omega) (by omega) W) (Lib.hid fun W => at_any g D (by omega) (by omega) (by omega) (by omega) (by omega) W) (Lib.hid fun W => at_any (f * x + g * z) (D * z) (by omega) (by omega) (by omega) (by omega) (by omega) W)
          (Lib.hid fun W => in_yes fL fH (by omega) (by omega) (by omega) (by omega) (by omega) i1 i2 W) (Lib.hid fun W => in_yes fA fB (by omega) (by omega) (by omega) (by omega) (by omega) i3 i4 W) (Lib.hid fun W => in_yes fP fQ (by omega) (by omega) (by omega) (by omega) (by omega) i5 i6 W) (Lib.hid HF)
    · rw [decide_eq_false hA] at HL
      exact hol_all a n c vs f g d x z f g D 0 0 0 0 0 0 0 0 0 0 0 0 0 0 0 0 0 0 w hn p0 p1 p2 p3 p4 HR HAl HP HV0 (Lib.hid HL)
  · refine hol_bad a n c vs f g d x z f g D 0 0 0 0 0 0 0 0 0 0 0 0 0 0 0 0 0 0 w hn p0 p1 p2 p3 p4 HR HAl (Lib.hid fun h => hV fun v hv => ?_) HP
    obtain ⟨i, hi, he⟩ := List.mem_iff_getElem.1 hv
    exact h i v (by omega) (by rw [← he]; exact List.getElem?_eq_getElem hi)
end Go.Proofs.Ytbdcmdofmokoeaa
