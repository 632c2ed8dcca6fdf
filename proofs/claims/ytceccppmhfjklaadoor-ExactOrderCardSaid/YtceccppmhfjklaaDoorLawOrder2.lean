/-
  ExactOrder: what the walk asks, for any arguments.
-/
import Derived.Test.YtceccppmhfjklaaDoorLawOrder
namespace Go.Proofs.YtceccppmhfjklaaDoor
open Go.RowKit

theorem rn_none {x : Rat} (h : ¬ fits x) : rn x = 0 := if_neg h
theorem rd_none {x : Rat} (h : ¬ fits x) : rd x = 0 := if_neg h
theorem ordQ_congr {q r q' r' : Rat} (h1 : q < r ↔ q' < r') (h2 : q = r ↔ q' = r') : ordQ q r = ordQ q' r' := by
  have b1 := ordQ_bounds q r
  have b2 := ordQ_bounds q' r'
  have e1 := @ordQ_lt q r
  have e2 := @ordQ_lt q' r'
  have e3 := @ordQ_eq q r
  have e4 := @ordQ_eq q' r'
  by_cases k1 : q < r
  · have := e1.2 k1; have := e2.2 (h1.1 k1); omega
  · have n1 : ¬ ordQ q r < 0 := fun k => k1 (e1.1 k)
    have n2 : ¬ ordQ q' r' < 0 := fun k => k1 (h1.2 (e2.1 k))
    by_cases k2 : q = r
    · have := e3.2 k2; have := e4.2 (h2.1 k2); omega
    · have n3 : ¬ ordQ q r = 0 := fun k => k2 (e3.1 k)
      have n4 : ¬ ordQ q' r' = 0 := fun k => k2 (h2.2 (e4.1 k))
      omega
theorem ordQ_swap (q r : Rat) : ordQ r q = -ordQ q r := by
  unfold ordQ; rw [← Int.sign_neg]; congr 1; omega
theorem fn_lt (z : Rat) : (fn z < 0 ↔ z < 0) ∧ (fn z = 0 ↔ z = 0) ∧ (0 < fn z ↔ 0 < z) := by
  obtain ⟨a, b, c⟩ := cmp_parts z 0
  rw [show fn 0 = 0 from rfl, show fd 0 = 1 from rfl, Int.mul_one, Int.zero_mul, Int.sub_zero] at a b c
  exact ⟨a, b, c⟩
/-- A comparison of what two calls answered. -/
theorem cmp_rs (p q : Rat) : ∃ g1 g2, (∀ w, Calls Tryd.prog 21 #[.agg #[.int .i64 (rn p), .int .i64 (rd p)], .agg #[.int .i64 (rn q), .int .i64 (rd q)]] w fun e w' => e = .returned (.tuple #[.int .i64 g1, .int .i64 g2]) ∧ Below w.heap.size w w') ∧ (fits p → fits q → g1 = ordQ p q ∧ g2 = 0) := by
  by_cases hp : fits p
  · by_cases hq : fits q
    · rw [rn_yes hp, rd_yes hp, rn_yes hq, rd_yes hq]
      exact ⟨_, _, compare_q p q hp hq, fun _ _ => ⟨rfl, rfl⟩⟩
    · rw [rn_none hq, rd_none hq]
      exact ⟨_, _, compare_bad _ _ _ _ (fun h => okF_zero h.2), fun _ h => absurd h hq⟩
  · rw [rn_none hp, rd_none hp]
    exact ⟨_, _, compare_bad _ _ _ _ (fun h => okF_zero h.1), fun h => absurd h hp⟩
theorem re_beq {x : Rat} (h : ¬ fits x) : (re x == 0) = false := by rw [re_no h]; rfl
theorem re_bne {x : Rat} (h : ¬ fits x) : (re x != 0) = true := by rw [re_no h]; rfl

theorem order_true (x1 y1 x2 y2 x3 y3 : Int) (l1 : -9223372036854775808 ≤ x1) (u1 : x1 ≤ 9223372036854775807) (l2 : -9223372036854775808 ≤ x2) (u2 : x2 ≤ 9223372036854775807) (l3 : -9223372036854775808 ≤ x3) (u3 : x3 ≤ 9223372036854775807) (w : World) (hT : Tab w) :
    Calls Tryd.prog 8 #[.agg #[.int .i64 x1, .int .i64 y1], .agg #[.int .i64 x2, .int .i64 y2], .agg #[.int .i64 x3, .int .i64 y3]] w fun e w' => e = .returned (.bool true) ∧ Below w.heap.size w w' := by
  by_cases hv : okF x1 y1 ∧ okF x2 y2 ∧ okF x3 y3
  · obtain ⟨q, hq, rfl, rfl⟩ := (okF_iff _ _).1 hv.1
    obtain ⟨r, hr, rfl, rfl⟩ := (okF_iff _ _).1 hv.2.1
    obtain ⟨s, hs, rfl, rfl⟩ := (okF_iff _ _).1 hv.2.2
    obtain ⟨g1, g2, HC, hg⟩ := cmp_rs (q + s) (r + s)
    obtain ⟨g3, g4, HD, hg'⟩ := cmp_rs (q * s) (r * s)
    have bx := ordQ_bounds q r
    refine order_in _ _ _ _ _ _ (ordQ q r) (ordQ r q) (ordQ r s) (ordQ q s) _ _ _ _ _ _ _ _ _ g1 g2 _ _ _ _ _ _ g3 g4 w hT (valid_3 _ _ _ _ _ _ l1 u1 l2 u2 l3 u3 true ⟨fun _ => hv, fun _ => rfl⟩) (compare_q q r hq hr) (compare_q r q hr hq) (compare_q r s hr hs) (compare_q q s hq hs) (sub_q q r hq hr) (add_q q s hq hs) (add_q r s hr hs) HC (mul_q q s hq hs) (mul_q r s hr hs) HD ?_ ?_ ?_ ?_ ?_ ?_
    · rw [ordQ_swap, Int.neg_neg]; exact IntWalk.i64_in _ (by omega)
    · by_cases h : q = r
      · subst h; exact .inl ⟨ordQ_eq.2 rfl, rfl, rfl⟩
      · have n0 : ¬ ordQ q r = 0 := fun k => h (ordQ_eq.1 k)
        by_cases e : fn q = fn r
        · exact .inr (.inr ⟨n0, e, fun k => h (q_ext e k)⟩)
        · exact .inr (.inl ⟨n0, e⟩)
    · by_cases c1 : ordQ q r ≤ 0
      · by_cases c2 : ordQ r s ≤ 0
        · refine .inr (.inr ⟨c1, c2, fun k => ?_⟩)
          have := Rat.le_trans (ordQ_le.1 c1) (ordQ_le.1 c2)
          exact absurd (ordQ_gt.1 k) (Rat.not_lt.2 this)
        · exact .inr (.inl ⟨c1, c2⟩)
      · exact .inl ⟨by omega, c1⟩
    · by_cases f : fits (q - r)
      · rw [re_yes f, rn_yes f]
        obtain ⟨a, b, c⟩ := fn_lt (q - r)
        have i1 : q - r < 0 ↔ q < r := by grind
        have i2 : q - r = 0 ↔ q = r := by grind
        have i3 : 0 < q - r ↔ r < q := by grind
        have e1 := @ordQ_lt q r; have e2 := @ordQ_eq q r; have e3 := @ordQ_gt q r
        rcases (show ordQ q r < 0 ∨ ordQ q r = 0 ∨ 0 < ordQ q r by omega) with k | k | k
        · have := a.2 (i1.2 (e1.1 k)); exact .inr (.inl ⟨rfl, k, this, by omega, by omega⟩)
        · exact .inr (.inr (.inl ⟨rfl, k, b.2 (i2.2 (e2.1 k))⟩))
        · have := c.2 (i3.2 (e3.1 k)); exact .inr (.inr (.inr ⟨rfl, k, this, by omega, by omega⟩))
      · exact .inl (re_beq f)
    · by_cases f : fits (q + s)
      · by_cases f' : fits (r + s)
        · obtain ⟨k1, k2⟩ := hg f f'
          exact .inr (.inr ⟨re_yes f, re_yes f', by rw [k1]; exact ordQ_congr (by grind) (by grind), k2⟩)
        · exact .inr (.inl ⟨re_yes f, re_beq f'⟩)
      · exact .inl (re_beq f)
    · by_cases f : fits (q * s)
      · by_cases f' : fits (r * s)
        · by_cases h0 : fn s ≤ 0
          · exact .inr (.inr (.inl ⟨re_yes f, re_yes f', h0⟩))
          · obtain ⟨k1, k2⟩ := hg' f f'
            have sp : 0 < s := (fn_lt s).2.2.1 (by omega)
            refine .inr (.inr (.inr ⟨re_yes f, re_yes f', h0, ?_, k2⟩))
            rw [k1]
            have m1 : q < r → q * s < r * s := fun h => by have := Rat.mul_pos (show 0 < r - q by grind) sp; grind
            have m2 : r < q → r * s < q * s := fun h => by have := Rat.mul_pos (show 0 < q - r by grind) sp; grind
            refine ordQ_congr ⟨fun h => ?_, m1⟩ ⟨fun h => ?_, fun h => by rw [h]⟩
            · rcases (show q < r ∨ q = r ∨ r < q by grind) with k | k | k
              · exact k
              · subst k; grind
              · have := m2 k; grind
            · rcases (show q < r ∨ q = r ∨ r < q by grind) with k | k | k
              · have := m1 k; grind
              · exact k
              · have := m2 k; grind
        · exact .inr (.inl ⟨re_yes f, re_bne f'⟩)
      · exact .inl (re_bne f)
  · exact order_bad _ _ _ _ _ _ w hT (valid_3 _ _ _ _ _ _ l1 u1 l2 u2 l3 u3 false ⟨fun k => Bool.noConfusion k, fun k => absurd k hv⟩)
end Go.Proofs.YtceccppmhfjklaaDoor
