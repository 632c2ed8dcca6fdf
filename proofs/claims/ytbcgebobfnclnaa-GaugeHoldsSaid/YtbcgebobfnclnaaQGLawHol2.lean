/-
  The law GaugeHolds for any arguments.
-/
import Derived.Test.YtbcgebobfnclnaaQGLawHol
import Derived.Test.YtbcgebobfnclnaaQGLawHolB
import Derived.Test.YtbcgebobfnclnaaQGLawHolC
import Derived.Test.YtbcgebobfnclnaaM7
namespace Go.Proofs.Ytbcgebobfnclnaa
open Go.RowKit Go.Shelf
set_option linter.unusedVariables false
set_option linter.unusedSimpArgs false

set_option maxHeartbeats 1000000 in
theorem holds_true (a : Option Addr) (n c : Nat) (zs : List Int) (a2 : Option Addr) (m2 c2 : Nat) (ms : List Int) (t p nz : Int) (w : World) (hn : n ≤ maxLen) (hm : m2 ≤ maxLen) (hms : ∀ z ∈ ms, -32768 ≤ z ∧ z ≤ 32767) (hR : Row w a n (iv zs)) (hR2 : Row w a2 m2 (hv ms)) :
    Calls Try.prog 10 #[.slice a n c, .slice a2 m2 c2, .int .i64 t, .int .i64 p, .int .i64 nz] w fun e w' => e = .returned (.bool true) ∧ Below w.heap.size w w' := by
  have hlen : zs.length = n := by have := hR.1; rwa [iv_length] at this
  by_cases hl : n ≤ 64
  case neg => exact holds_long a n c zs a2 m2 c2 ms t p nz w hR hR2 hn (by omega)
  by_cases h0 : nz < 0
  · exact holds_neg a n c zs a2 m2 c2 ms t p nz w hR hR2 hl h0
  by_cases h1 : 64 < nz
  · exact holds_big a n c zs a2 m2 c2 ms t p nz w hR hR2 hl h1
  have HX := fun w => ri_any a n c zs t p nz hn w
  have HY := fun w => fa_any a n c zs t p nz hn w
  have HW := fun w => wi_any a n c zs t nz hn w
  have HV := fun w => val_any a n c zs hl w
  by_cases hz : okP zs
  case neg =>
    obtain ⟨e1, e2, -, -⟩ := ri_bad (t := t) (p := p) (nz := nz) (fun k : okP zs ∧ okN nz => hz k.1)
    rw [if_neg hz] at e1 e2
    rw [e1] at HX
    rw [e2] at HY
    rw [decide_eq_false hz] at HV
    exact holds_inv a n c zs a2 m2 c2 ms t p nz w hR hR2 hl (by omega) (by omega) _ _ _ _ _ _ _ _ _ _ _ _ _ _ _ rfl rfl HX HY HW HV
  rw [decide_eq_true hz] at HV
  by_cases hp0 : p < 0
  · obtain ⟨e1, e2, -, -⟩ := ri_arg (t := t) (nz := nz) hz (fun k : okT t ∧ inL zs p => by have := k.2.1; omega)
    rw [e1] at HX
    rw [e2] at HY
    exact holds_before a n c zs a2 m2 c2 ms t p nz w hR hR2 hl (by omega) (by omega) hp0 _ _ _ _ _ _ _ _ _ _ _ _ _ _ _ rfl rfl HX HY HW HV
  by_cases hp1 : (n : Int) ≤ p
  · obtain ⟨e1, e2, -, -⟩ := ri_arg (t := t) (nz := nz) hz (fun k : okT t ∧ inL zs p => by have := k.2.2; omega)
    rw [e1] at HX
    rw [e2] at HY
    exact holds_behind a n c zs a2 m2 c2 ms t p nz w hR hR2 hl (by omega) (by omega) hp1 _ _ _ _ _ _ _ _ _ _ _ _ _ _ _ rfl rfl HX HY HW HV
  obtain ⟨L, hL⟩ : ∃ L, alL zs ms nz = L := ⟨_, rfl⟩
  have hLl : L.length = n := by rw [← hL, alL_length, hlen]
  have hKl : L.reverse.length = n := by rw [List.length_reverse, hLl]
  have hLb : ∀ z ∈ L, 0 ≤ z ∧ z ≤ 1020 := by rw [← hL]; exact alL_bd zs ms nz
  have hKb : ∀ z ∈ L.reverse, 0 ≤ z ∧ z ≤ 1020 := fun z hz => hLb z (List.mem_reverse.1 hz)
  have HAL : ∀ w : World, Row w a n (iv zs) → Row w a2 m2 (hv ms) → Calls Try.prog 52 #[.slice a n c, .slice a2 m2 c2, .int .i64 nz] w fun e w' => ∃ v c', e = .returned (.slice v n c') ∧ Row w' v n (iv L) ∧ Below w.heap.size w w' := fun w r1 r2 => by
    refine (alw_any a n c zs a2 m2 c2 ms nz (by omega) hm hz.2 (by omega) hms w r1 r2).mono ?_
    rintro e w' ⟨v, c', he, hr, hb⟩
    refine ⟨v, c', he, ?_, hb⟩
    rw [← hL]; unfold alL; rw [hlen]; exact hr
  have HRV : ∀ (v : Option Addr) (c : Nat) (w : World), Row w v n (iv L) → Calls Try.prog 49 #[.slice v n c] w fun e w' => ∃ v' c', e = .returned (.slice v' n c') ∧ Row w' v' n (iv L.reverse) ∧ Below w.heap.size w w' := fun v c w r => by
    refine (rev_any v n c L (by omega) w r).mono ?_
    rintro e w' ⟨v', c', he, hr, hb⟩
    refine ⟨v', c', he, ?_, hb⟩
    rw [← revL L, hLl]; exact hr
  obtain ⟨T, hT⟩ : ∃ T, IntKind.i64.wrap (4 * t) = T := ⟨_, rfl⟩
  obtain ⟨k, hk⟩ : ∃ k, p.toNat = k := ⟨_, rfl⟩
  have hkp : (k : Int) = p := by omega
  have hM : IntKind.i64.wrap ((n : Int) - 1) = (n : Int) - 1 := IntWalk.i64_in _ (by omega)
  have hq : IntKind.i64.wrap ((n : Int) - 1 - p) = ((n - 1 - k : Nat) : Int) := by rw [IntWalk.i64_in _ (by omega)]; omega
  have HA := fun (v : Option Addr) (c : Nat) w => fst_any v n c L T k (by omega) (by omega) hLb w
  have HC := fun (v : Option Addr) (c : Nat) w => fst_any v n c L.reverse T (n - 1 - k) (by omega) (by omega) hKb w
  have HD := fun (v : Option Addr) (c : Nat) w => fst_any v n c L T 0 (by omega) (by omega) hLb w
  have HF := fun (v : Option Addr) (c : Nat) w => fst_any v n c L.reverse T 0 (by omega) (by omega) hKb w
  rw [hkp] at HA
  obtain ⟨A1, hA1⟩ : ∃ x, fvN T L k = x := ⟨_, rfl⟩
  obtain ⟨A2, hA2⟩ : ∃ x, fvD T L k = x := ⟨_, rfl⟩
  obtain ⟨C1, hC1⟩ : ∃ x, fvN T L.reverse (n - 1 - k) = x := ⟨_, rfl⟩
  obtain ⟨C2, hC2⟩ : ∃ x, fvD T L.reverse (n - 1 - k) = x := ⟨_, rfl⟩
  obtain ⟨D1, hD1⟩ : ∃ x, fvN T L 0 = x := ⟨_, rfl⟩
  obtain ⟨D2, hD2⟩ : ∃ x, fvD T L 0 = x := ⟨_, rfl⟩
  obtain ⟨F1, hF1⟩ : ∃ x, fvN T L.reverse 0 = x := ⟨_, rfl⟩
  obtain ⟨F2, hF2⟩ : ∃ x, fvD T L.reverse 0 = x := ⟨_, rfl⟩
  have PA : riE t zs p nz = 0 → fvB T L k = true ∧ ∀ w, Calls Try.prog 54 #[.agg #[.int .i64 (s1 (riS t zs p nz)), .int .i64 (s2 (riS t zs p nz)), .int .i64 (s3 (riS t zs p nz)), .int .i64 (s4 (riS t zs p nz))], .int .i64 A1, .int .i64 A2] w fun e w' => e = .returned (.bool true) ∧ Below w.heap.size w w' := fun h => by
    have ot := (ri_found h).2.2.1
    have eT : T = 4 * t := by rw [← hT]; exact IntWalk.i64_in _ (by have := ot.1; have := ot.2; omega)
    obtain ⟨g1, l, h', e, fl, fh, k1, k2, d1, d2, d3, d4⟩ := al_first (ms := ms) h L hL
    rw [hk, ← eT] at g1 k1 k2 d1 d2 d3 d4
    rw [hA1, hA2] at k1 k2
    rw [hA2] at d1 d2
    rw [hA1] at d3 d4
    refine ⟨g1, fun w => ?_⟩
    rw [e]
    exact holds_q l h' A1 A2 fl fh d1 (by omega) (by omega) (by omega) k1 k2 (mkR_fits d1 (by omega) (by omega) (by omega)) w
  have PC : faE t zs p nz = 0 → fvB T L.reverse (n - 1 - k) = true ∧ ∃ X1 X2, IntKind.i64.wrap (((n : Int) - 1) * C2) = X1 ∧ IntKind.i64.wrap (X1 - C1) = X2 ∧ ∀ w, Calls Try.prog 54 #[.agg #[.int .i64 (s1 (faS t zs p nz)), .int .i64 (s2 (faS t zs p nz)), .int .i64 (s3 (faS t zs p nz)), .int .i64 (s4 (faS t zs p nz))], .int .i64 X2, .int .i64 C2] w fun e w' => e = .returned (.bool true) ∧ Below w.heap.size w w' := fun h => by
    have ot := (fa_found h).2.2.1
    have eT : T = 4 * t := by rw [← hT]; exact IntWalk.i64_in _ (by have := ot.1; have := ot.2; omega)
    obtain ⟨g1, l, h', e, fl, fh, ⟨v, hv, k1, k2⟩, d1, d2, d3, d4⟩ := al_last (ms := ms) h L hL
    rw [hk, ← eT, hlen] at g1 hv d1 d2 d3 d4
    rw [hC1, hC2] at hv
    rw [hC2] at d1 d2
    rw [hC1] at d3 d4
    have b1 := Int.mul_nonneg (show 0 ≤ (n : Int) - 1 by omega) (show 0 ≤ C2 by omega)
    have b2 := Int.mul_le_mul (show (n : Int) - 1 ≤ 63 by omega) d2 (by omega) (by omega)
    have w1 : IntKind.i64.wrap (((n : Int) - 1) * C2) = ((n : Int) - 1) * C2 := IntWalk.i64_in _ (by omega)
    have w2 : IntKind.i64.wrap (((n : Int) - 1) * C2 - C1) = ((n : Int) - 1) * C2 - C1 := IntWalk.i64_in _ (by omega)
    refine ⟨g1, _, _, w1, w2, fun w => ?_⟩
    rw [e]
    rw [mkR_less d1] at hv
    exact holds_q l h' _ C2 fl fh d1 (by omega) (by omega) (by omega) (by rw [← hv]; exact k1) (by rw [← hv]; exact k2) (mkR_fits d1 (by omega) (by omega) (by omega)) w
  have PD : wiE t zs nz = 0 → fvB T L 0 = true ∧ fvB T L.reverse 0 = true ∧ ∃ Y1 Y2 Y3 Y4 Y5 Y6, IntKind.i64.wrap (((n : Int) - 1) * F2) = Y1 ∧ IntKind.i64.wrap (Y1 - F1) = Y2 ∧ IntKind.i64.wrap (Y2 * D2) = Y3 ∧ IntKind.i64.wrap (D1 * F2) = Y4 ∧ IntKind.i64.wrap (Y3 - Y4) = Y5 ∧ IntKind.i64.wrap (D2 * F2) = Y6 ∧
      ∀ w, Calls Try.prog 54 #[.agg #[.int .i64 (s1 (wiS t zs nz)), .int .i64 (s2 (wiS t zs nz)), .int .i64 (s3 (wiS t zs nz)), .int .i64 (s4 (wiS t zs nz))], .int .i64 Y5, .int .i64 Y6] w fun e w' => e = .returned (.bool true) ∧ Below w.heap.size w w' := fun h => by
    have ot := (wi_found h).2.2.1
    have eT : T = 4 * t := by rw [← hT]; exact IntWalk.i64_in _ (by have := ot.1; have := ot.2; omega)
    obtain ⟨g1, g2, l, h', e, fl, fh, ⟨v, hv, k1, k2⟩, ⟨d1, d2, d3, d4⟩, ⟨e1, e2, e3, e4⟩⟩ := al_wide (ms := ms) h L hL
    rw [← eT] at g1 g2 hv d1 d2 d3 d4 e1 e2 e3 e4
    rw [hlen] at hv
    rw [hD1, hD2, hF1, hF2] at hv
    rw [hD2] at d1 d2
    rw [hD1] at d3 d4
    rw [hF2] at e1 e2
    rw [hF1] at e3 e4
    have b1 := Int.mul_nonneg (show 0 ≤ (n : Int) - 1 by omega) (show 0 ≤ F2 by omega)
    have b2 := Int.mul_le_mul (show (n : Int) - 1 ≤ 63 by omega) e2 (by omega) (by omega)
    have w1 : IntKind.i64.wrap (((n : Int) - 1) * F2) = ((n : Int) - 1) * F2 := IntWalk.i64_in _ (by omega)
    have w2 : IntKind.i64.wrap (((n : Int) - 1) * F2 - F1) = ((n : Int) - 1) * F2 - F1 := IntWalk.i64_in _ (by omega)
    obtain ⟨Y2, hY2⟩ : ∃ y, ((n : Int) - 1) * F2 - F1 = y := ⟨_, rfl⟩
    rw [mkR_less e1, hY2, mkR_minus d1 e1] at hv
    replace w2 := w2.trans hY2
    have y2 : -70000 ≤ Y2 ∧ Y2 ≤ 64260 := by omega
    have b3 := mul_bound Y2 D2 70000 1020 (by omega) (by omega) (by omega) (by omega)
    have b4 := mul_bound D1 F2 70000 1020 (by omega) (by omega) (by omega) (by omega)
    have b5 := mul_bound D2 F2 1020 1020 (by omega) (by omega) (by omega) (by omega)
    have b6 := Int.mul_le_mul (show (1 : Int) ≤ D2 by omega) e1 (by omega) (by omega)
    refine ⟨g1, g2, _, Y2, Y2 * D2, D1 * F2, Y2 * D2 - D1 * F2, D2 * F2, w1, w2, IntWalk.i64_in _ (by omega), IntWalk.i64_in _ (by omega), IntWalk.i64_in _ (by omega), IntWalk.i64_in _ (by omega), fun w => ?_⟩
    rw [e]
    exact holds_q l h' _ _ fl fh (by omega) (by omega) (by omega) (by omega) (by rw [← hv]; exact k1) (by rw [← hv]; exact k2) (mkR_fits (by omega) (by omega) (by omega) (by omega)) w
  rw [hA1, hA2] at HA
  rw [hC1, hC2] at HC
  rw [hD1, hD2] at HD
  rw [hF1, hF2] at HF
  by_cases hE : riE t zs p nz = 0
  · by_cases hG : faE t zs p nz = 0
    · by_cases hH : wiE t zs nz = 0
      · obtain ⟨i1, HOA⟩ := PA hE
        rw [hE] at HX
        rw [i1] at HA
        obtain ⟨i2, X1, X2, hX1, hX2, HOC⟩ := PC hG
        rw [hG] at HY
        rw [i2] at HC
        obtain ⟨i3, i4, Y1, Y2, Y3, Y4, Y5, Y6, hY1, hY2, hY3, hY4, hY5, hY6, HOD⟩ := PD hH
        rw [hH] at HW
        rw [i3] at HD
        rw [i4] at HF
        exact holds_000 a n c zs a2 m2 c2 ms t p nz w hR hR2 hl (by omega) (by omega) (by omega) (by omega) L L.reverse true true true true _ _ _ _ _ _ _ _ _ _ _ _ 0 0 0 _ _ T A1 A2 C1 C2 D1 D2 F1 F2 X1 X2 Y1 Y2 Y3 Y4 Y5 Y6 hM hq hT hX1 hX2 hY1 hY2 hY3 hY4 hY5 hY6 HX HY HW HV HAL HRV HA HC HD HF HOA HOC HOD
      · obtain ⟨i1, HOA⟩ := PA hE
        rw [hE] at HX
        rw [i1] at HA
        obtain ⟨i2, X1, X2, hX1, hX2, HOC⟩ := PC hG
        rw [hG] at HY
        rw [i2] at HC
        exact holds_001 a n c zs a2 m2 c2 ms t p nz w hR hR2 hl (by omega) (by omega) (by omega) (by omega) L L.reverse true true _ _ _ _ _ _ _ _ _ _ _ _ _ _ 0 0 _ _ _ T A1 A2 C1 C2 D1 D2 F1 F2 X1 X2 0 0 0 0 0 0 hM hq hT hX1 hX2 (bne0 hH) HX HY HW HV HAL HRV HA HC HD HF HOA HOC
    · by_cases hH : wiE t zs nz = 0
      · obtain ⟨i1, HOA⟩ := PA hE
        rw [hE] at HX
        rw [i1] at HA
        obtain ⟨i3, i4, Y1, Y2, Y3, Y4, Y5, Y6, hY1, hY2, hY3, hY4, hY5, hY6, HOD⟩ := PD hH
        rw [hH] at HW
        rw [i3] at HD
        rw [i4] at HF
        exact holds_010 a n c zs a2 m2 c2 ms t p nz w hR hR2 hl (by omega) (by omega) (by omega) (by omega) L L.reverse true _ true true _ _ _ _ _ _ _ _ _ _ _ _ 0 _ 0 _ _ T A1 A2 C1 C2 D1 D2 F1 F2 0 0 Y1 Y2 Y3 Y4 Y5 Y6 hM hq hT hY1 hY2 hY3 hY4 hY5 hY6 (beq0 hG) HX HY HW HV HAL HRV HA HC HD HF HOA HOD
      · obtain ⟨i1, HOA⟩ := PA hE
        rw [hE] at HX
        rw [i1] at HA
        exact holds_011 a n c zs a2 m2 c2 ms t p nz w hR hR2 hl (by omega) (by omega) (by omega) (by omega) L L.reverse true _ _ _ _ _ _ _ _ _ _ _ _ _ _ _ 0 _ _ _ _ T A1 A2 C1 C2 D1 D2 F1 F2 0 0 0 0 0 0 0 0 hM hq hT (beq0 hG) (bne0 hH) HX HY HW HV HAL HRV HA HC HD HF HOA
  · by_cases hG : faE t zs p nz = 0
    · by_cases hH : wiE t zs nz = 0
      · obtain ⟨i2, X1, X2, hX1, hX2, HOC⟩ := PC hG
        rw [hG] at HY
        rw [i2] at HC
        obtain ⟨i3, i4, Y1, Y2, Y3, Y4, Y5, Y6, hY1, hY2, hY3, hY4, hY5, hY6, HOD⟩ := PD hH
        rw [hH] at HW
        rw [i3] at HD
        rw [i4] at HF
        exact holds_100 a n c zs a2 m2 c2 ms t p nz w hR hR2 hl (by omega) (by omega) (by omega) (by omega) L L.reverse _ true true true _ _ _ _ _ _ _ _ _ _ _ _ _ 0 0 _ _ T A1 A2 C1 C2 D1 D2 F1 F2 X1 X2 Y1 Y2 Y3 Y4 Y5 Y6 hM hq hT hX1 hX2 hY1 hY2 hY3 hY4 hY5 hY6 (beq0 hE) HX HY HW HV HAL HRV HA HC HD HF HOC HOD
      · obtain ⟨i2, X1, X2, hX1, hX2, HOC⟩ := PC hG
        rw [hG] at HY
        rw [i2] at HC
        exact holds_101 a n c zs a2 m2 c2 ms t p nz w hR hR2 hl (by omega) (by omega) (by omega) (by omega) L L.reverse _ true _ _ _ _ _ _ _ _ _ _ _ _ _ _ _ 0 _ _ _ T A1 A2 C1 C2 D1 D2 F1 F2 X1 X2 0 0 0 0 0 0 hM hq hT hX1 hX2 (beq0 hE) (bne0 hH) HX HY HW HV HAL HRV HA HC HD HF HOC
    · by_cases hH : wiE t zs nz = 0
      · obtain ⟨i3, i4, Y1, Y2, Y3, Y4, Y5, Y6, hY1, hY2, hY3, hY4, hY5, hY6, HOD⟩ := PD hH
        rw [hH] at HW
        rw [i3] at HD
        rw [i4] at HF
        exact holds_110 a n c zs a2 m2 c2 ms t p nz w hR hR2 hl (by omega) (by omega) (by omega) (by omega) L L.reverse _ _ true true _ _ _ _ _ _ _ _ _ _ _ _ _ _ 0 _ _ T A1 A2 C1 C2 D1 D2 F1 F2 0 0 Y1 Y2 Y3 Y4 Y5 Y6 hM hq hT hY1 hY2 hY3 hY4 hY5 hY6 (beq0 hE) (beq0 hG) HX HY HW HV HAL HRV HA HC HD HF HOD
      · exact holds_111 a n c zs a2 m2 c2 ms t p nz w hR hR2 hl (by omega) (by omega) (by omega) (by omega) L L.reverse _ _ _ _ _ _ _ _ _ _ _ _ _ _ _ _ _ _ _ _ _ T A1 A2 C1 C2 D1 D2 F1 F2 0 0 0 0 0 0 0 0 hM hq hT (beq0 hE) (beq0 hG) (bne0 hH) HX HY HW HV HAL HRV HA HC HD HF
end Go.Proofs.Ytbcgebobfnclnaa
