/-
  Layer 4: the numbers that a stripe may be, by the document.
-/
import Derived.Deep.DeepCutAuto
import Derived.Deep.CutRange
import Derived.Test.YticclcimelibdaaJStr
namespace Go.Proofs.Yticclcimelibdaa
open Go.RowKit
set_option linter.unusedVariables false
set_option linter.unusedSimpArgs false

theorem bit_cases (g e : Nat) : (((g : Int) / 2 ^ e).tmod 2 = 0 ∧ g / 2 ^ e % 2 = 0) ∨ (((g : Int) / 2 ^ e).tmod 2 = 1 ∧ g / 2 ^ e % 2 = 1) := by
  have h : ((g : Int) / 2 ^ e) = ((g / 2 ^ e : Nat) : Int) := by simp
  rw [h]
  generalize g / 2 ^ e = q
  rw [Int.tmod_eq_emod_of_nonneg (by omega)]
  omega
theorem all_range_yes {j : Nat} {f : Nat → Bool} (h : (List.range j).all f = true) (hj : f j = true) : (List.range (j + 1)).all f = true := by
  rw [List.range_succ, List.all_append, h]; simp [hj]
theorem all_range_no {j n : Nat} {f : Nat → Bool} (h : j < n) (hj : f j = false) : (List.range n).all f = false := by
  rw [List.all_eq_false]
  exact ⟨j, by simpa using h, by simp [hj]⟩
set_option maxRecDepth 100000 in
set_option maxHeartbeats 4000000 in
theorem may_any (noise : Int) (a b : Option Addr) (n c d : Nat) (xs ys : List Int) (w : World) (hR : Row w a n (iv xs)) (hS : Row w b n (iv ys)) (h : okStr noise xs ys) (k : Nat) (hk : k ≤ 255) :
    Calls Try.prog 88 #[.slice a n c, .slice b n d, .int .i64 noise, .int .i64 (k : Int)] w fun e w' => e = .returned (.bool (mayB (2 * noise) xs ys k)) ∧ Below w.heap.size w w' := by
  have hx : xs.length = n := by have := hR.1; rwa [iv_length] at this
  have hy : ys.length = n := by have := hS.1; rwa [iv_length] at this
  obtain ⟨⟨g1, g2⟩, g3, g4, g5, g6, g7⟩ := h
  rw [hx] at g1 g2
  rw [may_iff (2 * noise) (by omega) xs ys (hx.trans hy.symm) k, hx]
  have HX := Lib.hid hx; have HY := Lib.hid hy; have HR := Lib.hid hR; have HS := Lib.hid hS; have HV := Lib.hid g4; have HU := Lib.hid g5
  clear hx hy hR hS g3 g4 g5
  have p0 : (1 : Int) ≤ (n : Int) := by omega
  have p1 : (n : Int) ≤ 8 := by omega
  have hg := grayN_lt k hk
  go_enter Try.func88, Try.ntmps88
  go_wp2
  go_loopw [10, 11] (fun i _ wr => ∃ j : Nat, j ≤ n ∧ i = .int .i64 j ∧ Hid ((List.range j).all (bitOk (2 * noise) xs ys n k) = true) ∧ Below w.heap.size w wr) (fun i _ _ => n - (intOf i).toNat)
  case atStart => exact ⟨0, Nat.zero_le _, rfl, (show (List.range 0).all _ = true by simp), by (repeat' (first | (with_reducible exact Below.refl _ _) | (with_reducible assumption) | (with_reducible refine belowThru ?_ (by assumption)) | (with_reducible refine belowAlloc ?_) | (with_reducible refine Below.setCell ?_ (by first | omega | (simp; done) | (simp; omega)) _) | (with_reducible refine Below.drew ?_) | (with_reducible refine below_drewN ?_ _)))⟩
  case round =>
    obtain ⟨j, hj, rfl, ht, hB⟩ := hrel
    by_cases hlt : j < n
    · obtain ⟨b1, o1, z1, rfl, l1, h1, c1⟩ := HR.out.int hlt
      obtain ⟨b2, o2, z2, rfl, l2, h2, c2⟩ := HS.out.int hlt
      have c1 := cell_later hB c1
      have c2 := cell_later hB c2
      have q0 : (0 : Int) ≤ (j : Int) := by omega
      have q1 : (j : Int) < (n : Int) := by omega
      obtain ⟨v1, v2⟩ := HV.out z1 (List.mem_of_getElem? h1)
      obtain ⟨v3, v4⟩ := HU.out z2 (List.mem_of_getElem? h2)
      have HX1 : Hid (xs[j]?.getD 0 = z1) := by show _ = _; rw [h1]; rfl
      have HX2 : Hid (ys[j]?.getD 0 = z2) := by show _ = _; rw [h2]; rfl
      clear h1 h2
      rcases bit_cases (grayN k) (n - 1 - j) with ⟨hb, hb'⟩ | ⟨hb, hb'⟩
      · have HB := Lib.hid hb; have HB' := Lib.hid hb'
        clear hb hb'
        go_upto_region 6 with (first
          | (go_at_call 85; ((with_reducible refine (code_any k hk _).mono ?_); rintro e w1 ⟨rfl, rfl⟩)))
        simp only [HB.out]
        by_cases hd : 2 * noise < z1 - z2
        · have hz : (List.range n).all (bitOk (2 * noise) xs ys n k) = false := all_range_no hlt (by unfold bitOk; rw [HX1.out, HX2.out, HB'.out]; simp [hd])
          go_quiet (fail)
          go_wp2
          go_ret
          exact ⟨by first | rfl | (rw [hz]; rfl), by (repeat' (first | (with_reducible exact Below.refl _ _) | (with_reducible assumption) | (with_reducible refine belowThru ?_ (by assumption)) | (with_reducible refine belowAlloc ?_) | (with_reducible refine Below.setCell ?_ (by first | omega | (simp; done) | (simp; omega)) _) | (with_reducible refine Below.drew ?_) | (with_reducible refine below_drewN ?_ _)))⟩
        · have ht' : Hid ((List.range (j + 1)).all (bitOk (2 * noise) xs ys n k) = true) := all_range_yes ht.out (by unfold bitOk; rw [HX1.out, HX2.out, HB'.out]; simp; omega)
          have hd' : decide (2 * noise < z1 - z2) = false := by simpa using hd
          go_quiet (fail)
          go_wp2
          go_roundw
          case rel => exact ⟨j + 1, hlt, by go_num, ht', by (repeat' (first | (with_reducible exact Below.refl _ _) | (with_reducible assumption) | (with_reducible refine belowThru ?_ (by assumption)) | (with_reducible refine belowAlloc ?_) | (with_reducible refine Below.setCell ?_ (by first | omega | (simp; done) | (simp; omega)) _) | (with_reducible refine Below.drew ?_) | (with_reducible refine below_drewN ?_ _)))⟩
          case measure => simp [intOf]; omega
      · have HB := Lib.hid hb; have HB' := Lib.hid hb'
        clear hb hb'
        go_upto_region 6 with (first
          | (go_at_call 85; ((with_reducible refine (code_any k hk _).mono ?_); rintro e w1 ⟨rfl, rfl⟩)))
        simp only [HB.out]
        by_cases hd : 2 * noise < z2 - z1
        · have hz : (List.range n).all (bitOk (2 * noise) xs ys n k) = false := all_range_no hlt (by unfold bitOk; rw [HX1.out, HX2.out, HB'.out]; simp [hd])
          go_quiet (fail)
          go_wp2
          go_ret
          exact ⟨by first | rfl | (rw [hz]; rfl), by (repeat' (first | (with_reducible exact Below.refl _ _) | (with_reducible assumption) | (with_reducible refine belowThru ?_ (by assumption)) | (with_reducible refine belowAlloc ?_) | (with_reducible refine Below.setCell ?_ (by first | omega | (simp; done) | (simp; omega)) _) | (with_reducible refine Below.drew ?_) | (with_reducible refine below_drewN ?_ _)))⟩
        · have ht' : Hid ((List.range (j + 1)).all (bitOk (2 * noise) xs ys n k) = true) := all_range_yes ht.out (by unfold bitOk; rw [HX1.out, HX2.out, HB'.out]; simp; omega)
          have hd' : decide (2 * noise < z2 - z1) = false := by simpa using hd
          go_quiet (fail)
          go_wp2
          go_roundw
          case rel => exact ⟨j + 1, hlt, by go_num, ht', by (repeat' (first | (with_reducible exact Below.refl _ _) | (with_reducible assumption) | (with_reducible refine belowThru ?_ (by assumption)) | (with_reducible refine belowAlloc ?_) | (with_reducible refine Below.setCell ?_ (by first | omega | (simp; done) | (simp; omega)) _) | (with_reducible refine Below.drew ?_) | (with_reducible refine below_drewN ?_ _)))⟩
          case measure => simp [intOf]; omega
    · obtain rfl : j = n := by omega
      have hz : (List.range j).all (bitOk (2 * noise) xs ys j k) = true := ht.out
      go_wp2
      go_ret
      exact ⟨by first | rfl | (rw [hz]; rfl), by (repeat' (first | (with_reducible exact Below.refl _ _) | (with_reducible assumption) | (with_reducible refine belowThru ?_ (by assumption)) | (with_reducible refine belowAlloc ?_) | (with_reducible refine Below.setCell ?_ (by first | omega | (simp; done) | (simp; omega)) _) | (with_reducible refine Below.drew ?_) | (with_reducible refine below_drewN ?_ _)))⟩
end Go.Proofs.Yticclcimelibdaa
