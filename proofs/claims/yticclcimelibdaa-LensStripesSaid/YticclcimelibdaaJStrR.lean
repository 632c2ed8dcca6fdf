/-
  Layer 4: the document's own Stripes; both sides.
-/
import Derived.Test.YticclcimelibdaaJMay
import Derived.Test.YticclcimelibdaaJStrN
namespace Go.Proofs.Yticclcimelibdaa
open Go.RowKit
set_option linter.unusedVariables false
set_option linter.unusedSimpArgs false

theorem ownsRow_later {w w' : World} {base e size : Nat} {v : Value} {n : Nat} {xs : List Value} (hb : Below w.heap.size w w') (h : w.ownsRow base e size v n xs) : w'.ownsRow base e size v n xs :=
  ⟨h.1, h.2.imp id (fun ⟨g, cap, cur, e1, hg, hh, r⟩ => ⟨g, cap, cur, e1, hg, (hb.block g (lt_of_block hh)).trans hh, r⟩)⟩
set_option maxRecDepth 100000 in
set_option maxHeartbeats 4000000 in
theorem rstripes_ok (noise : Int) (a b : Option Addr) (n c d : Nat) (xs ys : List Int) (w : World) (hR : Row w a n (iv xs)) (hS : Row w b n (iv ys)) (h : okStr noise xs ys) :
    Calls Try.prog 45 #[.slice a n c, .slice b n d, .int .i64 noise] w (RetS (stripes (2 * noise) xs ys (2 ^ n)) 0 w) := by
  have hx : xs.length = n := by have := hR.1; rwa [iv_length] at this
  have hy : ys.length = n := by have := hS.1; rwa [iv_length] at this
  have HO := Lib.hid h
  obtain ⟨⟨g1, g2⟩, g3, g4, g5, g6, g7⟩ := h
  rw [hx] at g1 g2
  have HX := Lib.hid hx; have HY := Lib.hid hy; have HR := Lib.hid hR; have HS := Lib.hid hS
  have hn : n ≤ maxLen := by unfold maxLen; omega
  have HW1 : Hid (∀ w, Calls Try.prog 82 #[.int .i64 (n : Int), .int .i64 1, .int .i64 8] w fun e w' => e = .returned (.bool true) ∧ w = w') := fun w => rwithin_yes _ _ _ (by omega) (by omega) w
  have HW2 : Hid (∀ (w : World), Row w a n (iv xs) → Calls Try.prog 87 #[.slice a n c] w fun e w' => e = .returned (.bool true) ∧ Below w.heap.size w w') := by
    intro w hr
    have := values_any a n c xs hn w hr
    rwa [decide_eq_true g4] at this
  have HW3 : Hid (∀ (w : World), Row w b n (iv ys) → Calls Try.prog 87 #[.slice b n d] w fun e w' => e = .returned (.bool true) ∧ Below w.heap.size w w') := by
    intro w hr
    have := values_any b n d ys hn w hr
    rwa [decide_eq_true g5] at this
  have HW4 : Hid (∀ w, Calls Try.prog 82 #[.int .i64 noise, .int .i64 0, .int .i64 64] w fun e w' => e = .returned (.bool true) ∧ w = w') := fun w => rwithin_yes _ _ _ g6 g7 w
  clear hx hy hR hS g3 g4 g5
  obtain ⟨C, hC⟩ : ∃ C : Nat, 2 ^ n = C := ⟨_, rfl⟩
  have hCle : C ≤ 256 := by rw [← hC]; exact Nat.pow_le_pow_right (n := 2) (by omega) g2
  have hwp := wrap_two_pow n g2
  rw [hC] at hwp ⊢
  clear hC
  obtain ⟨i0, hi, hz0, hz1, hz2⟩ := info_parts info_tin
  have p0 : (1 : Int) ≤ (n : Int) := by omega
  have p1 : (n : Int) ≤ 8 := by omega
  go_enter Try.func45, Try.ntmps45
  go_wp2_with (first
    | (go_at_call 82; ((with_reducible refine (HW1.out _).mono ?_); rintro e w1 ⟨rfl, rfl⟩))
    | (go_at_call 87; ((with_reducible refine (HW2.out _ (HR.out.later (by (repeat' (first | (with_reducible exact Below.refl _ _) | (with_reducible assumption) | (with_reducible refine belowThru ?_ (by assumption)) | (with_reducible refine belowAlloc ?_) | (with_reducible refine Below.setCell ?_ (by first | omega | (simp; done) | (simp; omega)) _) | (with_reducible refine Below.drew ?_) | (with_reducible refine below_drewN ?_ _)))))).mono ?_); rintro e w2 ⟨rfl, hb2⟩; have hB2 : Below w.heap.size w w2 := by (repeat' (first | (with_reducible exact Below.refl _ _) | (with_reducible assumption) | (with_reducible refine belowThru ?_ (by assumption)) | (with_reducible refine belowAlloc ?_) | (with_reducible refine Below.setCell ?_ (by first | omega | (simp; done) | (simp; omega)) _) | (with_reducible refine Below.drew ?_) | (with_reducible refine below_drewN ?_ _)))))
    | (go_at_call 87; ((with_reducible refine (HW3.out _ (HS.out.later (by (repeat' (first | (with_reducible exact Below.refl _ _) | (with_reducible assumption) | (with_reducible refine belowThru ?_ (by assumption)) | (with_reducible refine belowAlloc ?_) | (with_reducible refine Below.setCell ?_ (by first | omega | (simp; done) | (simp; omega)) _) | (with_reducible refine Below.drew ?_) | (with_reducible refine below_drewN ?_ _)))))).mono ?_); rintro e w3 ⟨rfl, hb3⟩; have hB3 : Below w.heap.size w w3 := by (repeat' (first | (with_reducible exact Below.refl _ _) | (with_reducible assumption) | (with_reducible refine belowThru ?_ (by assumption)) | (with_reducible refine belowAlloc ?_) | (with_reducible refine Below.setCell ?_ (by first | omega | (simp; done) | (simp; omega)) _) | (with_reducible refine Below.drew ?_) | (with_reducible refine below_drewN ?_ _)))))
    | (go_at_call 82; ((with_reducible refine (HW4.out _).mono ?_); rintro e w4 ⟨rfl, rfl⟩)))
  go_loopw [8, 9] (fun v i wr => ∃ k : Nat, k ≤ C ∧ i = .int .i64 k ∧ wr.ownsRow w.heap.size 3 1 v (stripes (2 * noise) xs ys k).length (iv (stripes (2 * noise) xs ys k)) ∧ Below w.heap.size w wr) (fun _ i _ => C - (intOf i).toNat)
  case atStart => exact ⟨0, Nat.zero_le _, rfl, World.ownsRow_nil _ _ _ _, by (repeat' (first | (with_reducible exact Below.refl _ _) | (with_reducible assumption) | (with_reducible refine belowThru ?_ (by assumption)) | (with_reducible refine belowAlloc ?_) | (with_reducible refine Below.setCell ?_ (by first | omega | (simp; done) | (simp; omega)) _) | (with_reducible refine Below.drew ?_) | (with_reducible refine below_drewN ?_ _)))⟩
  case round =>
    obtain ⟨k, hk, rfl, hown, hB⟩ := hrel
    by_cases hlt : k < C
    · have HN := Lib.hid (stripes_snoc (2 * noise) xs ys k)
      have hl := stripes_len (2 * noise) xs ys k
      have hzB := hB.size
      have p2 : (0 : Int) ≤ (k : Int) := by omega
      have p3 : (k : Int) < (C : Int) := by omega
      by_cases m1 : mayB (2 * noise) xs ys k = true
      · have HM : Hid (∀ w, Row w a n (iv xs) → Row w b n (iv ys) → Calls Try.prog 88 #[.slice a n c, .slice b n d, .int .i64 noise, .int .i64 (k : Int)] w fun e w' => e = .returned (.bool true) ∧ Below w.heap.size w w') := by
          intro w h1 h2; have := may_any noise a b n c d xs ys w h1 h2 HO.out k (by omega); rwa [m1] at this
        have HN' : Hid (stripes (2 * noise) xs ys (k + 1) = stripes (2 * noise) xs ys k ++ [(k : Int)]) := by show _ = _; rw [HN.out, m1]; simp
        clear HN m1
        have HOW := Lib.hid hown
        have hlo := hown.lt
        clear hown
        go_wp2_with (first
          | (go_at_call 88; ((with_reducible refine (HM.out _ (HR.out.later (by (repeat' (first | (with_reducible exact Below.refl _ _) | (with_reducible assumption) | (with_reducible refine belowThru ?_ (by assumption)) | (with_reducible refine belowAlloc ?_) | (with_reducible refine Below.setCell ?_ (by first | omega | (simp; done) | (simp; omega)) _) | (with_reducible refine Below.drew ?_) | (with_reducible refine below_drewN ?_ _))))) (HS.out.later (by (repeat' (first | (with_reducible exact Below.refl _ _) | (with_reducible assumption) | (with_reducible refine belowThru ?_ (by assumption)) | (with_reducible refine belowAlloc ?_) | (with_reducible refine Below.setCell ?_ (by first | omega | (simp; done) | (simp; omega)) _) | (with_reducible refine Below.drew ?_) | (with_reducible refine below_drewN ?_ _)))))).mono ?_); rintro e w7 ⟨rfl, hb7⟩; have hown := ownsRow_later hb7 HOW.out; have hB7 : Below w.heap.size w w7 := (by (repeat' (first | (with_reducible exact Below.refl _ _) | (with_reducible assumption) | (with_reducible refine belowThru ?_ (by assumption)) | (with_reducible refine belowAlloc ?_) | (with_reducible refine Below.setCell ?_ (by first | omega | (simp; done) | (simp; omega)) _) | (with_reducible refine Below.drew ?_) | (with_reducible refine below_drewN ?_ _)))); have hzB7 := hB7.size))
          | (at_builtin; refine wpList_append_own _ rfl _ _ 49 rfl w.heap.size 3 i0 (.int .i64 0) 1 8 Try.underlying49 hi hz0 hz1 hz2 rfl (by decide) _ _ _ rfl (hown.alloc _) ⟨w7.heap.size, 0, none⟩ 1 1 [.int .i64 (k : Int)] rfl rfl (cell_one_new _ _ _) (fun x hx => by simp at hx; subst hx; rfl) (by unfold maxLen; omega) (by omega) (by simp; omega) ?_; intro v' w3 hown' hgrow3 hnil3))
        have hB' := below_grow hB7 hown hgrow3
        have HO2 := Lib.hid (own_snoc hown' HN'.out)
        clear hown' hgrow3 hnil3 hown HOW hlo
        go_roundw
        case rel => exact ⟨k + 1, hlt, by go_num, HO2.out, hB'⟩
        case measure => simp [intOf]; omega
      · have m2 : mayB (2 * noise) xs ys k = false := by simpa using m1
        have HM : Hid (∀ w, Row w a n (iv xs) → Row w b n (iv ys) → Calls Try.prog 88 #[.slice a n c, .slice b n d, .int .i64 noise, .int .i64 (k : Int)] w fun e w' => e = .returned (.bool false) ∧ Below w.heap.size w w') := by
          intro w h1 h2; have := may_any noise a b n c d xs ys w h1 h2 HO.out k (by omega); rwa [m2] at this
        have HN' : Hid (stripes (2 * noise) xs ys (k + 1) = stripes (2 * noise) xs ys k) := by show _ = _; rw [HN.out, m2]; simp
        clear HN m1 m2
        have HOW := Lib.hid hown
        clear hown
        go_wp2_with (go_at_call 88; ((with_reducible refine (HM.out _ (HR.out.later (by (repeat' (first | (with_reducible exact Below.refl _ _) | (with_reducible assumption) | (with_reducible refine belowThru ?_ (by assumption)) | (with_reducible refine belowAlloc ?_) | (with_reducible refine Below.setCell ?_ (by first | omega | (simp; done) | (simp; omega)) _) | (with_reducible refine Below.drew ?_) | (with_reducible refine below_drewN ?_ _))))) (HS.out.later (by (repeat' (first | (with_reducible exact Below.refl _ _) | (with_reducible assumption) | (with_reducible refine belowThru ?_ (by assumption)) | (with_reducible refine belowAlloc ?_) | (with_reducible refine Below.setCell ?_ (by first | omega | (simp; done) | (simp; omega)) _) | (with_reducible refine Below.drew ?_) | (with_reducible refine below_drewN ?_ _)))))).mono ?_); rintro e w7 ⟨rfl, hb7⟩; have HOW7 := Lib.hid (ownsRow_later hb7 HOW.out); have hB7 : Below w.heap.size w w7 := (by (repeat' (first | (with_reducible exact Below.refl _ _) | (with_reducible assumption) | (with_reducible refine belowThru ?_ (by assumption)) | (with_reducible refine belowAlloc ?_) | (with_reducible refine Below.setCell ?_ (by first | omega | (simp; done) | (simp; omega)) _) | (with_reducible refine Below.drew ?_) | (with_reducible refine below_drewN ?_ _))))))
        go_roundw
        case rel => exact ⟨k + 1, hlt, by go_num, by rw [HN'.out]; exact HOW7.out, hB7⟩
        case measure => simp [intOf]; omega
    · obtain rfl : k = C := by omega
      obtain ⟨v, e, rfl, hr⟩ := ownsRow_row hown
      have HQ : Hid (Row wr v (stripes (2 * noise) xs ys k).length (iv (stripes (2 * noise) xs ys k))) := hr
      clear hr hown
      go_wp2
      go_ret2
      exact ⟨v, e, rfl, HQ.out, hB⟩
/-- Both sides give the same numbers, or errors. -/
theorem both_stripes (noise : Int) (n m : Nat) (xs ys : List Int) (hx : xs.length = n) (hy : ys.length = m) (hn : n ≤ maxLen) (hm : m ≤ maxLen) :
    ∃ (zs : List Int) (er : Int), (∀ a b c d w, Row w a n (iv xs) → Row w b m (iv ys) → Calls Try.prog 44 #[.slice a n c, .slice b m d, .int .i64 noise] w (RetS zs er w)) ∧
      (∀ a b c d w, Row w a n (iv xs) → Row w b m (iv ys) → Calls Try.prog 45 #[.slice a n c, .slice b m d, .int .i64 noise] w (RetS zs er w)) ∧ zs.length ≤ 256 := by
  by_cases h : okStr noise xs ys
  · obtain rfl : n = m := by have := h.2.1; omega
    have h2 : 2 ^ n ≤ 2 ^ 8 := Nat.pow_le_pow_right (by omega) (by have := h.1.2; omega)
    exact ⟨_, 0, fun a b c d w r s => stripes_ok noise a b n c d xs ys w r s h, fun a b c d w r s => rstripes_ok noise a b n c d xs ys w r s h, Nat.le_trans (stripes_len _ _ _ _) h2⟩
  · exact ⟨[], 2, fun a b c d w r s => stripes_no noise a b n m c d xs ys hn hm w r s h, fun a b c d w r s => rstripes_no noise a b n m c d xs ys hn hm w r s h, by simp⟩
end Go.Proofs.Yticclcimelibdaa
