/-
  Layer 4: corrected places increase, and distorting is the inverse (mathematics).
-/
import Derived.Test.YtbdcmdofmokoeaaQKLawAdd
namespace Go.Proofs.Ytbdcmdofmokoeaa
open Go.RowKit
set_option linter.unusedVariables false
set_option linter.unusedSimpArgs false

/-- A place and its corrected place, on a part of a table. -/
def OnL (ks : List (Int × Int)) (i : Nat) (x y : Rat) : Prop := i + 2 ≤ ks.length ∧ ((at1 ks i : Rat) ≤ x ∧ x ≤ (at1 ks (i + 1) : Rat)) ∧ ((to1 ks i : Rat) ≤ y ∧ y ≤ (to1 ks (i + 1) : Rat)) ∧
  (y - (to1 ks i : Rat)) * ((at1 ks (i + 1) : Rat) - (at1 ks i : Rat)) = (x - (at1 ks i : Rat)) * ((to1 ks (i + 1) : Rat) - (to1 ks i : Rat))
theorem at1_swp (ks : List (Int × Int)) (i : Nat) : at1 (ks.map swp) i = to1 ks i := by
  unfold at1 to1; rw [swp_get]; cases ks[i]? <;> rfl
theorem to1_swp (ks : List (Int × Int)) (i : Nat) : to1 (ks.map swp) i = at1 ks i := by
  unfold at1 to1; rw [swp_get]; cases ks[i]? <;> rfl
theorem OnL.swap {ks : List (Int × Int)} {i : Nat} {x y : Rat} (h : OnL (ks.map swp) i y x) : OnL ks i x y := by
  obtain ⟨h1, h2, h3, h4⟩ := h
  rw [at1_swp, at1_swp] at h2
  rw [to1_swp, to1_swp] at h3
  rw [at1_swp, at1_swp, to1_swp, to1_swp] at h4
  exact ⟨by simpa using h1, h3, h2, h4.symm⟩
theorem okT.le2 {ks : List (Int × Int)} (h : okT ks) (i d : Nat) (hi : i + d < ks.length) : to1 ks i ≤ to1 ks (i + d) := by
  have := (okT_swp.2 h).le i d (by simpa using hi)
  rwa [at1_swp, at1_swp] at this
theorem sgn_pos {a c b : Rat} (e : a * c = b) (hc : 0 < c) (hb : 0 < b) : 0 < a := by
  refine Rat.not_le.1 fun h => ?_
  have := mulL h (c := c) (Rat.le_of_lt hc)
  grind
theorem sgn_nn {a c b : Rat} (e : a * c = b) (hc : 0 < c) (hb : 0 ≤ b) : 0 ≤ a := by
  refine Rat.not_lt.1 fun h => ?_
  have := Rat.mul_lt_mul_of_pos_right h hc
  grind
theorem int_lt {a b : Int} (h : a < b) : (0 : Rat) < (b : Rat) - (a : Rat) := by
  have : (a : Rat) < (b : Rat) := by exact_mod_cast h
  grind
theorem OnL.lo {ks : List (Int × Int)} (hk : okT ks) {i : Nat} {x y : Rat} (h : OnL ks i x y) (hx : (at1 ks i : Rat) < x) : (to1 ks i : Rat) < y := by
  obtain ⟨h1, h2, h3, h4⟩ := h
  have l := hk.lt (i := i) (by omega)
  have := sgn_pos h4 (int_lt l.1) (Rat.mul_pos (by grind) (int_lt l.2))
  grind
theorem OnL.hi {ks : List (Int × Int)} (hk : okT ks) {i : Nat} {x y : Rat} (h : OnL ks i x y) (hx : x < (at1 ks (i + 1) : Rat)) : y < (to1 ks (i + 1) : Rat) := by
  obtain ⟨h1, h2, h3, h4⟩ := h
  have l := hk.lt (i := i) (by omega)
  have e : ((to1 ks (i + 1) : Rat) - y) * ((at1 ks (i + 1) : Rat) - (at1 ks i : Rat)) = ((at1 ks (i + 1) : Rat) - x) * ((to1 ks (i + 1) : Rat) - (to1 ks i : Rat)) := by grind
  have := sgn_pos e (int_lt l.1) (Rat.mul_pos (by grind) (int_lt l.2))
  grind
theorem OnL.mono {ks : List (Int × Int)} (hk : okT ks) {i j : Nat} {x y x' y' : Rat} (h : OnL ks i x y) (h' : OnL ks j x' y') (hx : x < x') : y < y' := by
  have hA := h; have hB := h'
  obtain ⟨h1, ⟨h2, h2'⟩, ⟨h3, h3'⟩, h4⟩ := h
  obtain ⟨g1, ⟨g2, g2'⟩, ⟨g3, g3'⟩, g4⟩ := h'
  rcases Nat.lt_trichotomy i j with c | c | c
  · have lT := hk.le2 (i + 1) (j - (i + 1)) (by omega)
    rw [show i + 1 + (j - (i + 1)) = j by omega] at lT
    have lT' : (to1 ks (i + 1) : Rat) ≤ (to1 ks j : Rat) := by exact_mod_cast lT
    by_cases c1 : x < (at1 ks (i + 1) : Rat)
    · have := hA.hi hk c1
      grind
    · by_cases c2 : (at1 ks j : Rat) < x'
      · have := hB.lo hk c2
        grind
      · have e1 : (at1 ks (i + 1) : Rat) < (at1 ks j : Rat) := by grind
        have e2 : at1 ks (i + 1) < at1 ks j := by exact_mod_cast e1
        have hj : i + 1 < j := by
          by_cases q : i + 1 = j
          · rw [q] at e2; omega
          · omega
        have l1 := (hk.lt (i := i + 1) (by omega)).2
        have l2 := hk.le2 (i + 1 + 1) (j - (i + 1 + 1)) (by omega)
        rw [show i + 1 + 1 + (j - (i + 1 + 1)) = j by omega] at l2
        have l3 : (to1 ks (i + 1) : Rat) < (to1 ks j : Rat) := by exact_mod_cast (show to1 ks (i + 1) < to1 ks j by omega)
        grind
  · subst c
    have l := hk.lt (i := i) (by omega)
    have e : (y' - y) * ((at1 ks (i + 1) : Rat) - (at1 ks i : Rat)) = (x' - x) * ((to1 ks (i + 1) : Rat) - (to1 ks i : Rat)) := by grind
    have := sgn_pos e (int_lt l.1) (Rat.mul_pos (by grind) (int_lt l.2))
    grind
  · have lA := hk.le (j + 1) (i - (j + 1)) (by omega)
    rw [show j + 1 + (i - (j + 1)) = i by omega] at lA
    have lA' : (at1 ks (j + 1) : Rat) ≤ (at1 ks i : Rat) := by exact_mod_cast lA
    grind
theorem coQ_on {ks : List (Int × Int)} {X D : Int} (hk : okT ks) (hx : okX ks X D) : ∃ i, OnL ks i (mkR X D) (coQ ks X D) := by
  obtain ⟨hD, hXb⟩ := hx.bounds hk
  have hl := hk.1
  obtain ⟨i, hs⟩ := seg_ex hk hx.2.2.2
  have hi2 := hs.1
  have l := hk.lt (i := i) (by omega)
  have hd0 : (at1 ks (i + 1) - at1 ks i) * D ≠ 0 := by
    have := Int.mul_pos (show 0 < at1 ks (i + 1) - at1 ks i by omega) (show 0 < D by omega)
    omega
  have e1 : mkR X D * (D : Rat) = (X : Rat) := div_spec (by omega)
  have e2 : coQ ks X D * ((segD ks D i : Int) : Rat) = ((segN ks X D i : Int) : Rat) := by rw [coQ_of hk (by omega) hs]; exact div_spec hd0
  have hD0 : (0 : Rat) < (D : Rat) := by exact_mod_cast (show (0 : Int) < D by omega)
  have lo : at1 ks i * D ≤ X := by
    rcases Nat.eq_zero_or_pos i with q | q
    · rw [q]; exact hx.2.2.1
    · have := hs.2.1 (i - 1) (by omega)
      rw [show i - 1 + 1 = i by omega] at this
      omega
  have hi : X ≤ at1 ks (i + 1) * D := hs.2.2
  have lo' : (at1 ks i : Rat) * D ≤ X := by exact_mod_cast lo
  have hi' : (X : Rat) ≤ at1 ks (i + 1) * D := by exact_mod_cast hi
  obtain ⟨x, hxx⟩ : ∃ x, mkR X D = x := ⟨_, rfl⟩
  obtain ⟨y, hyy⟩ : ∃ y, coQ ks X D = y := ⟨_, rfl⟩
  rw [hxx] at e1 ⊢
  rw [hyy] at e2 ⊢
  unfold segN segD at e2
  push_cast at e2
  rw [← e1] at e2 lo' hi'
  have x1 : (at1 ks i : Rat) ≤ x := by
    have := sgn_nn (a := x - at1 ks i) (b := x * D - at1 ks i * D) (by grind) hD0 (by grind)
    grind
  have x2 : x ≤ (at1 ks (i + 1) : Rat) := by
    have := sgn_nn (a := at1 ks (i + 1) - x) (b := at1 ks (i + 1) * D - x * D) (by grind) hD0 (by grind)
    grind
  have e3 : (y - (to1 ks i : Rat)) * ((at1 ks (i + 1) : Rat) - (at1 ks i : Rat)) = (x - (at1 ks i : Rat)) * ((to1 ks (i + 1) : Rat) - (to1 ks i : Rat)) := by
    have q : ((y - (to1 ks i : Rat)) * ((at1 ks (i + 1) : Rat) - (at1 ks i : Rat)) - (x - (at1 ks i : Rat)) * ((to1 ks (i + 1) : Rat) - (to1 ks i : Rat))) * (D : Rat) = 0 := by grind
    rcases Rat.mul_eq_zero.1 q with h | h
    · grind
    · grind
  have y1 := sgn_nn e3 (int_lt l.1) (Rat.mul_nonneg (by grind) (Rat.le_of_lt (int_lt l.2)))
  have y2 := sgn_nn (a := (to1 ks (i + 1) : Rat) - y) (c := (at1 ks (i + 1) : Rat) - (at1 ks i : Rat)) (b := ((at1 ks (i + 1) : Rat) - x) * ((to1 ks (i + 1) : Rat) - (to1 ks i : Rat))) (by grind) (int_lt l.1) (Rat.mul_nonneg (by grind) (Rat.le_of_lt (int_lt l.2)))
  exact ⟨i, hi2, ⟨x1, x2⟩, ⟨by grind, by grind⟩, e3⟩
theorem okF_mk {X D : Int} (h : okF X D) : fits (mkR X D) ∧ fn (mkR X D) = X ∧ fd (mkR X D) = D := by
  obtain ⟨q, hq, rfl, rfl⟩ := (okF_iff _ _).1 h
  rw [mkR_self]; exact ⟨hq, rfl, rfl⟩
theorem coQ_lt {ks : List (Int × Int)} {X D Y F : Int} (hk : okT ks) (hx : okX ks X D) (hy : okX ks Y F) (h : mkR X D < mkR Y F) : coQ ks X D < coQ ks Y F := by
  obtain ⟨i, hi⟩ := coQ_on hk hx
  obtain ⟨j, hj⟩ := coQ_on hk hy
  exact hi.mono hk hj h
theorem coQ_eq {ks : List (Int × Int)} {X D Y F : Int} (hx : okF X D) (hy : okF Y F) (h : mkR X D = mkR Y F) : coQ ks X D = coQ ks Y F := by
  obtain ⟨-, a, b⟩ := okF_mk hx
  obtain ⟨-, c, d⟩ := okF_mk hy
  have e1 : X = Y := by rw [← a, h, c]
  have e2 : D = F := by rw [← b, h, d]
  rw [e1, e2]
theorem coQ_le {ks : List (Int × Int)} {X D Y F : Int} (hk : okT ks) (hx : okX ks X D) (hy : okX ks Y F) (h : mkR X D ≤ mkR Y F) : coQ ks X D ≤ coQ ks Y F := by
  by_cases c : mkR X D < mkR Y F
  · exact Rat.le_of_lt (coQ_lt hk hx hy c)
  · rw [coQ_eq hx.1 hy.1 (Rat.le_antisymm h (Rat.not_lt.1 c))]; exact Rat.le_refl
theorem cross_le {a : Int} {q : Rat} : (a : Rat) ≤ q ↔ a * fd q ≤ fn q := by
  have e : q * (fd q : Rat) = (fn q : Rat) := by rw [← mkR_self q]; have := div_spec (m := fn q) (k := fd q) (by unfold fd; have := q.den_pos; omega); rw [mkR_self] at this ⊢; exact this
  have d0 : (0 : Rat) < (fd q : Rat) := by unfold fd; have := q.den_pos; exact_mod_cast (show (0 : Int) < (q.den : Int) by omega)
  constructor
  · intro h
    have := mulL h (c := (fd q : Rat)) (Rat.le_of_lt d0)
    rw [e] at this; exact_mod_cast this
  · intro h
    have h' : (a : Rat) * fd q ≤ fn q := by exact_mod_cast h
    have := sgn_nn (a := q - a) (b := q * fd q - a * fd q) (by grind) d0 (by grind)
    grind
theorem cross_ge {a : Int} {q : Rat} : q ≤ (a : Rat) ↔ fn q ≤ a * fd q := by
  have e : q * (fd q : Rat) = (fn q : Rat) := by rw [← mkR_self q]; have := div_spec (m := fn q) (k := fd q) (by unfold fd; have := q.den_pos; omega); rw [mkR_self] at this ⊢; exact this
  have d0 : (0 : Rat) < (fd q : Rat) := by unfold fd; have := q.den_pos; exact_mod_cast (show (0 : Int) < (q.den : Int) by omega)
  constructor
  · intro h
    have := mulL h (c := (fd q : Rat)) (Rat.le_of_lt d0)
    rw [e] at this; exact_mod_cast this
  · intro h
    have h' : (fn q : Rat) ≤ a * fd q := by exact_mod_cast h
    have := sgn_nn (a := a - q) (b := a * fd q - q * fd q) (by grind) d0 (by grind)
    grind
theorem coQ_in {ks : List (Int × Int)} {X D : Int} (hk : okT ks) (hx : okX ks X D) (hd : fd (coQ ks X D) ≤ 1048576) : okX (ks.map swp) (fn (coQ ks X D)) (fd (coQ ks X D)) := by
  obtain ⟨i, h1, h2, h3, h4⟩ := coQ_on hk hx
  have hl := hk.1
  refine ⟨okF_q (coQ_fits hk hx), hd, ?_, ?_⟩
  · rw [at1_swp]
    have a := hk.le2 0 i (by omega)
    rw [Nat.zero_add] at a
    have a' : (to1 ks 0 : Rat) ≤ (to1 ks i : Rat) := by exact_mod_cast a
    exact cross_le.1 (Rat.le_trans a' h3.1)
  · rw [at1_swp, List.length_map]
    have a := hk.le2 (i + 1) (ks.length - 1 - (i + 1)) (by omega)
    rw [show i + 1 + (ks.length - 1 - (i + 1)) = ks.length - 1 by omega] at a
    have a' : (to1 ks (i + 1) : Rat) ≤ (to1 ks (ks.length - 1) : Rat) := by exact_mod_cast a
    exact cross_ge.1 (Rat.le_trans h3.2 a')
theorem coQ_back {ks : List (Int × Int)} {X D : Int} (hk : okT ks) (hx : okX ks X D) (hd : fd (coQ ks X D) ≤ 1048576) : coQ (ks.map swp) (fn (coQ ks X D)) (fd (coQ ks X D)) = mkR X D := by
  have hy := coQ_in hk hx hd
  obtain ⟨i, hi⟩ := coQ_on hk hx
  obtain ⟨j, hj⟩ := coQ_on (okT_swp.2 hk) hy
  rw [mkR_self] at hj
  have hj' := hj.swap
  refine Rat.le_antisymm (Rat.not_lt.1 fun h => ?_) (Rat.not_lt.1 fun h => ?_)
  · exact Rat.lt_irrefl (hi.mono hk hj' h)
  · exact Rat.lt_irrefl (hj'.mono hk hi h)
end Go.Proofs.Ytbdcmdofmokoeaa
