/-
  LensStripes: the walk of the law.
-/
import Derived.Test.YticclcimelibdaaJLawStr
namespace Go.Proofs.Yticclcimelibdaa
open Go.RowKit
set_option linter.unusedVariables false
set_option linter.unusedSimpArgs false

set_option maxRecDepth 100000 in
set_option maxHeartbeats 4000000 in
theorem lawStripes_yes (k noise : Int) (a b : Option Addr) (n m c d : Nat) (xs ys : List Int) (hn : n ≤ 50) (hm : m ≤ 50) (w : World) (hR : Row w a n (iv xs)) (hS : Row w b m (iv ys)) :
    Calls Try.prog 7 #[.int .i64 k, .slice a n c, .slice b m d, .int .i64 noise] w fun e w' => e = .returned (.bool true) ∧ Below w.heap.size w w' := by
  have hx : xs.length = n := by have := hR.1; rwa [iv_length] at this
  have hy : ys.length = m := by have := hS.1; rwa [iv_length] at this
  obtain ⟨G, E, hg1, hg2⟩ := both_gray k
  obtain ⟨zs, er, hs1, hs2, hz⟩ := both_stripes noise n m xs ys hx hy (by unfold maxLen; omega) (by unfold maxLen; omega)
  have HA : Hid (∀ ty, ∃ r w', (Builtin.append_ #[49, 49] ty #[.slice (some ⟨w.heap.size, 0, none⟩) 0 0, .slice a n c]).run Try.prog (w.alloc (.cells #[] 3)) = .ok r w' ∧ ∃ (a' : Option Addr) (c' : Nat), r = .slice a' n c' ∧ Row w' a' n (iv xs) ∧ Below w.heap.size w w') := by
    intro ty
    obtain ⟨a', c', w', h1, h2, h3⟩ := run_append_lit ty a n c w.heap.size w.heap.size xs (by omega) (w.alloc (.cells #[] 3)) (Blk.new rfl) (Nat.le_refl _) (hR.later (by (repeat' (first | (with_reducible exact Below.refl _ _) | (with_reducible assumption) | (with_reducible refine belowThru ?_ (by assumption)) | (with_reducible refine belowAlloc ?_) | (with_reducible refine Below.setCell ?_ (by first | omega | (simp; done) | (simp; omega)) _) | (with_reducible refine Below.drew ?_) | (with_reducible refine below_drewN ?_ _)))))
    exact ⟨_, w', h1, a', c', rfl, h2, Below.trans (b := w.alloc (.cells #[] 3)) (by (repeat' (first | (with_reducible exact Below.refl _ _) | (with_reducible assumption) | (with_reducible refine belowThru ?_ (by assumption)) | (with_reducible refine belowAlloc ?_) | (with_reducible refine Below.setCell ?_ (by first | omega | (simp; done) | (simp; omega)) _) | (with_reducible refine Below.drew ?_) | (with_reducible refine below_drewN ?_ _)))) h3⟩
  have HG1 := Lib.hid hg1; have HG2 := Lib.hid hg2; have HS1 := Lib.hid hs1; have HS2 := Lib.hid hs2; have HR := Lib.hid hR; have HS := Lib.hid hS
  have HQ : Hid (∀ (a b : Option Addr) (n c d : Nat) (xs : List Int) (hn : n ≤ maxLen) (w : World), Row w a n (iv xs) → Row w b n (iv xs) →
    Calls Try.prog 46 #[.slice a n c, .slice b n d] w fun e w' => e = .returned (.bool true) ∧ Below w.heap.size w w') := by
    intro a b n c d xs hn w h1 h2
    have := sameInts_any a b n n c d xs xs hn w h1 h2
    rwa [decide_eq_true rfl] at this
  clear hg1 hg2 hs1 hs2 hR hS hx hy
  go_enter Try.func7, Try.ntmps7
  go_wp2_with (first
    | (at_builtin; (refine wpList_append_row rfl _ _ _ _ rfl _ _ rfl rfl (HA.out _) ?_); (rintro r w1 ⟨a1, n1, rfl, hR1, hB1⟩); have HR1 := Lib.hid hR1; clear hR1)
    | (go_at_call 25; ((with_reducible refine (HG1.out _).mono ?_); rintro e w2 ⟨rfl, hb2⟩; have hB2 : Below w.heap.size w w2 := (by (repeat' (first | (with_reducible exact Below.refl _ _) | (with_reducible assumption) | (with_reducible refine belowThru ?_ (by assumption)) | (with_reducible refine belowAlloc ?_) | (with_reducible refine Below.setCell ?_ (by first | omega | (simp; done) | (simp; omega)) _) | (with_reducible refine Below.drew ?_) | (with_reducible refine below_drewN ?_ _)))); have HR2 := Lib.hid (HR1.out.later hb2)))
    | (go_at_call 43; ((with_reducible refine (HG2.out _).mono ?_); rintro e w3 ⟨rfl, hb3⟩; have hB3 : Below w.heap.size w w3 := (by (repeat' (first | (with_reducible exact Below.refl _ _) | (with_reducible assumption) | (with_reducible refine belowThru ?_ (by assumption)) | (with_reducible refine belowAlloc ?_) | (with_reducible refine Below.setCell ?_ (by first | omega | (simp; done) | (simp; omega)) _) | (with_reducible refine Below.drew ?_) | (with_reducible refine below_drewN ?_ _)))); have HR3 := Lib.hid (HR2.out.later hb3)))
    | (go_at_call 44; ((with_reducible refine (HS1.out _ _ _ _ _ HR3.out (HS.out.later hB3)).mono ?_); rintro e w4 ⟨v4, c4, rfl, hr4, hb4⟩; have hB4 : Below w.heap.size w w4 := (by (repeat' (first | (with_reducible exact Below.refl _ _) | (with_reducible assumption) | (with_reducible refine belowThru ?_ (by assumption)) | (with_reducible refine belowAlloc ?_) | (with_reducible refine Below.setCell ?_ (by first | omega | (simp; done) | (simp; omega)) _) | (with_reducible refine Below.drew ?_) | (with_reducible refine below_drewN ?_ _)))); have HR4 := Lib.hid (HR3.out.later hb4); have HV4 := Lib.hid hr4; clear hr4))
    | (go_at_call 45; ((with_reducible refine (HS2.out _ _ _ _ _ (HR.out.later hB4) (HS.out.later hB4)).mono ?_); rintro e w5 ⟨v5, c5, rfl, hr5, hb5⟩; have hB5 : Below w.heap.size w w5 := (by (repeat' (first | (with_reducible exact Below.refl _ _) | (with_reducible assumption) | (with_reducible refine belowThru ?_ (by assumption)) | (with_reducible refine belowAlloc ?_) | (with_reducible refine Below.setCell ?_ (by first | omega | (simp; done) | (simp; omega)) _) | (with_reducible refine Below.drew ?_) | (with_reducible refine below_drewN ?_ _)))); have HR5 := Lib.hid (HR4.out.later hb5); have HV5 := Lib.hid (HV4.out.later hb5); have HU5 := Lib.hid hr5; clear hr5))
    | (go_at_call 46; ((with_reducible refine (HQ.out _ _ _ _ _ zs (by unfold maxLen; omega) _ HV5.out HU5.out).mono ?_); rintro e w6 ⟨rfl, hb6⟩; have hB6 : Below w.heap.size w w6 := (by (repeat' (first | (with_reducible exact Below.refl _ _) | (with_reducible assumption) | (with_reducible refine belowThru ?_ (by assumption)) | (with_reducible refine belowAlloc ?_) | (with_reducible refine Below.setCell ?_ (by first | omega | (simp; done) | (simp; omega)) _) | (with_reducible refine Below.drew ?_) | (with_reducible refine below_drewN ?_ _)))); have HR6 := Lib.hid (HR5.out.later hb6)))
    | (go_at_call 46; ((with_reducible refine (HQ.out _ _ _ _ _ xs (by unfold maxLen; omega) _ HR6.out (HR.out.later hB6)).mono ?_); rintro e w7 ⟨rfl, hb7⟩)))
  go_ret
  exact ⟨rfl, by (repeat' (first | (with_reducible exact Below.refl _ _) | (with_reducible assumption) | (with_reducible refine belowThru ?_ (by assumption)) | (with_reducible refine belowAlloc ?_) | (with_reducible refine Below.setCell ?_ (by first | omega | (simp; done) | (simp; omega)) _) | (with_reducible refine Below.drew ?_) | (with_reducible refine below_drewN ?_ _)))⟩
set_option maxHeartbeats 1000000 in
theorem lawStripes_true (k noise : Int) (a b : Option Addr) (n m c d : Nat) (xs ys : List Int) (hn : n ≤ maxLen) (hm : m ≤ maxLen) (w : World) (hR : Row w a n (iv xs)) (hS : Row w b m (iv ys)) :
    Calls Try.prog 7 #[.int .i64 k, .slice a n c, .slice b m d, .int .i64 noise] w fun e w' => e = .returned (.bool true) ∧ Below w.heap.size w w' := by
  by_cases h1 : n ≤ 50
  · by_cases h2 : m ≤ 50
    · exact lawStripes_yes k noise a b n m c d xs ys h1 h2 w hR hS
    · have p1 : (n : Int) ≤ 50 := by omega
      have p2 : (50 : Int) < (m : Int) := by omega
      clear hR hS h1 h2
      unfold maxLen at hn hm
      go_enter Try.func7, Try.ntmps7
      go_wp2
      go_ret
      exact ⟨rfl, by (repeat' (first | (with_reducible exact Below.refl _ _) | (with_reducible assumption) | (with_reducible refine belowThru ?_ (by assumption)) | (with_reducible refine belowAlloc ?_) | (with_reducible refine Below.setCell ?_ (by first | omega | (simp; done) | (simp; omega)) _) | (with_reducible refine Below.drew ?_) | (with_reducible refine below_drewN ?_ _)))⟩
  · have p1 : (50 : Int) < (n : Int) := by omega
    clear hR hS h1
    unfold maxLen at hn hm
    go_enter Try.func7, Try.ntmps7
    go_wp2
    go_ret
    exact ⟨rfl, by (repeat' (first | (with_reducible exact Below.refl _ _) | (with_reducible assumption) | (with_reducible refine belowThru ?_ (by assumption)) | (with_reducible refine belowAlloc ?_) | (with_reducible refine Below.setCell ?_ (by first | omega | (simp; done) | (simp; omega)) _) | (with_reducible refine Below.drew ?_) | (with_reducible refine below_drewN ?_ _)))⟩
end Go.Proofs.Yticclcimelibdaa
