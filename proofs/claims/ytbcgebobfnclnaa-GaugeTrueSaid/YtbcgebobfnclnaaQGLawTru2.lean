/-
  The law GaugeTrue for any arguments.
-/
import Derived.Test.YtbcgebobfnclnaaQGLawTruB
import Derived.Test.YtbcgebobfnclnaaQGLawTruC
import Derived.Test.YtbcgebobfnclnaaM1
import Derived.Test.YtbcgebobfnclnaaM2
import Derived.Test.YtbcgebobfnclnaaM3
import Derived.Test.YtbcgebobfnclnaaM4
import Derived.Test.YtbcgebobfnclnaaM5
import Derived.Test.YtbcgebobfnclnaaM6
import Derived.Test.YtbcgebobfnclnaaM7
import Derived.Test.YtbcgebobfnclnaaM8
import Derived.Test.YtbcgebobfnclnaaM9
namespace Go.Proofs.Ytbcgebobfnclnaa
open Go.RowKit Go.Shelf
set_option linter.unusedVariables false
set_option linter.unusedSimpArgs false

set_option maxHeartbeats 2000000 in
theorem true_true (t nz s1 s2 s3 s4 l1 l2 h1 h2 : Int) (a : Option Addr) (n c : Nat) (zs : List Int) (a2 : Option Addr) (m2 c2 : Nat) (ms : List Int) (hb0 : Bool) (w : World) (hn : n ≤ maxLen) (hm : m2 ≤ maxLen) (hms : ∀ z ∈ ms, -32768 ≤ z ∧ z ≤ 32767)
    (b1 : -9223372036854775808 ≤ s1 ∧ s1 ≤ 9223372036854775807) (b2 : -9223372036854775808 ≤ s3 ∧ s3 ≤ 9223372036854775807) (b3 : -9223372036854775808 ≤ l1 ∧ l1 ≤ 9223372036854775807) (b4 : -9223372036854775808 ≤ h1 ∧ h1 ≤ 9223372036854775807) (hR : Row w a n (iv zs)) (hR2 : Row w a2 m2 (hv ms)) :
    Calls Try.prog 13 #[.agg #[.int .i64 t, .int .i64 nz, .int .i64 s1, .int .i64 s2, .int .i64 s3, .int .i64 s4, .int .i64 l1, .int .i64 l2, .int .i64 h1, .int .i64 h2], .slice a n c, .slice a2 m2 c2, .bool hb0] w fun e w' => e = .returned (.bool true) ∧ Below w.heap.size w w' := by
  have hlen : zs.length = n := by have := hR.1; rwa [iv_length] at this
  by_cases hl : n ≤ 64
  case neg => exact true_long t nz s1 s2 s3 s4 l1 l2 h1 h2 a n c zs a2 m2 c2 ms hb0 w hR hR2 hn (by omega)
  obtain ⟨Z1, Z2, Z3, Z4, V, E, HM, hcase⟩ := mea_any t nz s1 s2 s3 s4 l1 l2 h1 h2 a n c zs hn hlen
  obtain ⟨vg, hvg, HG⟩ := rvg_any t nz s1 s2 s3 s4 l1 l2 h1 h2 b1 b2 b3 b4
  have HV := fun w => val_any a n c zs hl w
  rcases hcase with ⟨hg, rfl, rfl⟩ | ⟨hg, hz, rfl, rfl⟩ | ⟨hg, hz, rfl, hmea⟩
  · have e : vg = false := by cases vg with
      | false => rfl
      | true => exact absurd (hvg.1 rfl) hg
    rw [e] at HG
    exact true_badg t nz s1 s2 s3 s4 l1 l2 h1 h2 a n c zs a2 m2 c2 ms hb0 w hR hR2 hl _ _ _ _ _ _ rfl HM HG
  · rw [hvg.2 hg] at HG
    rw [decide_eq_false hz] at HV
    exact true_badp t nz s1 s2 s3 s4 l1 l2 h1 h2 a n c zs a2 m2 c2 ms hb0 w hR hR2 hl _ _ _ _ _ _ rfl HM HG HV
  rw [hvg.2 hg] at HG
  rw [decide_eq_true hz] at HV
  have ot := hg.1
  have on := hg.2.1
  obtain ⟨L, hL⟩ : ∃ L, alL zs ms nz = L := ⟨_, rfl⟩
  have hLl : L.length = n := by rw [← hL, alL_length, hlen]
  have hKl : L.reverse.length = n := by rw [List.length_reverse, hLl]
  have hLb : ∀ z ∈ L, 0 ≤ z ∧ z ≤ 1020 := by rw [← hL]; exact alL_bd zs ms nz
  have hKb : ∀ z ∈ L.reverse, 0 ≤ z ∧ z ≤ 1020 := fun z hz => hLb z (List.mem_reverse.1 hz)
  have hz1 := hz.1
  have HAL : ∀ w : World, Row w a n (iv zs) → Row w a2 m2 (hv ms) → Calls Try.prog 52 #[.slice a n c, .slice a2 m2 c2, .int .i64 nz] w fun e w' => ∃ v c', e = .returned (.slice v n c') ∧ Row w' v n (iv L) ∧ Below w.heap.size w w' := fun w r1 r2 => by
    refine (alw_any a n c zs a2 m2 c2 ms nz (by omega) hm hz.2 on hms w r1 r2).mono ?_
    rintro e w' ⟨v, c', he, hr, hb⟩
    refine ⟨v, c', he, ?_, hb⟩
    rw [← hL]; unfold alL; rw [hlen]; exact hr
  have HRV : ∀ (v : Option Addr) (c : Nat) (w : World), Row w v n (iv L) → Calls Try.prog 49 #[.slice v n c] w fun e w' => ∃ v' c', e = .returned (.slice v' n c') ∧ Row w' v' n (iv L.reverse) ∧ Below w.heap.size w w' := fun v c w r => by
    refine (rev_any v n c L (by omega) w r).mono ?_
    rintro e w' ⟨v', c', he, hr, hb⟩
    refine ⟨v', c', he, ?_, hb⟩
    rw [← revL L, hLl]; exact hr
  obtain ⟨T, eT⟩ : ∃ T, T = 4 * t := ⟨_, rfl⟩
  have hT : IntKind.i64.wrap (4 * t) = T := by rw [eT]; exact IntWalk.i64_in _ (by have := ot.1; have := ot.2; omega)
  have hM : IntKind.i64.wrap ((n : Int) - 1) = (n : Int) - 1 := IntWalk.i64_in _ (by omega)
  have HA := fun (v : Option Addr) (c : Nat) w => fst_any v n c L T 0 (by omega) (by omega) hLb w
  have HC := fun (v : Option Addr) (c : Nat) w => fst_any v n c L.reverse T 0 (by omega) (by omega) hKb w
  cases hu : FX T L 0 with
  | none =>
    rw [fvB_none hu] at HA
    rcases hmea with ⟨-, -, rfl, rfl, rfl, rfl, hV⟩ | ⟨x, y, sl, sh, tl, th, A, B, hx, -⟩
    · cases hs : (FX t (upL nz zs) 0).isSome with
      | true =>
        rw [hs, if_pos rfl] at hV
        subst hV
        exact true_no3 t nz s1 s2 s3 s4 l1 l2 h1 h2 a n c zs a2 m2 c2 ms hb0 w hR hR2 hl L L.reverse _ _ _ _ _ T _ _ _ _ hT HM HG HV HAL HRV HA HC
      | false =>
        rw [hs] at hV
        obtain rfl : V = 2 := hV
        exact true_no2 t nz s1 s2 s3 s4 l1 l2 h1 h2 a n c zs a2 m2 c2 ms hb0 w hR hR2 hl L L.reverse _ _ _ _ _ T _ _ _ _ hT HM HG HV HAL HRV HA HC
    · exfalso
      obtain ⟨x', _, hx', -, -⟩ := WX_some.1 hx
      obtain ⟨m, hm', -⟩ := FX_le (al_lw (ms := ms) hz.2 on.1) (by rw [FX_scale]; exact hx')
      rw [hL, ← eT, hu] at hm'
      cases hm'
  | some u =>
    rw [eT] at hu
    obtain ⟨g1, ⟨v, hw, hv⟩, ⟨d1, d2, d3, d4⟩, ⟨e1, e2, e3, e4⟩⟩ := al_any (ms := ms) hz L hL hu
    rw [← eT] at g1 hv hw d1 d2 d3 d4 e1 e2 e3 e4
    rw [hlen] at hv
    rw [g1] at HA
    obtain ⟨D1, hD1⟩ : ∃ x, fvN T L 0 = x := ⟨_, rfl⟩
    obtain ⟨D2, hD2⟩ : ∃ x, fvD T L 0 = x := ⟨_, rfl⟩
    obtain ⟨F1, hF1⟩ : ∃ x, fvN T L.reverse 0 = x := ⟨_, rfl⟩
    obtain ⟨F2, hF2⟩ : ∃ x, fvD T L.reverse 0 = x := ⟨_, rfl⟩
    rw [hD1, hD2, hF1, hF2] at hv
    rw [hD2] at d1 d2
    rw [hD1] at d3 d4
    rw [hF2] at e1 e2
    rw [hF1] at e3 e4
    rw [hD1, hD2] at HA
    rw [hF1, hF2] at HC
    have b1 := Int.mul_nonneg (show 0 ≤ (n : Int) - 1 by omega) (show 0 ≤ F2 by omega)
    have b2 := Int.mul_le_mul (show (n : Int) - 1 ≤ 63 by omega) e2 (by omega) (by omega)
    have w1 : IntKind.i64.wrap (((n : Int) - 1) * F2) = ((n : Int) - 1) * F2 := IntWalk.i64_in _ (by omega)
    have w2 : IntKind.i64.wrap (((n : Int) - 1) * F2 - F1) = ((n : Int) - 1) * F2 - F1 := IntWalk.i64_in _ (by omega)
    obtain ⟨Y2, hY2⟩ : ∃ y, ((n : Int) - 1) * F2 - F1 = y := ⟨_, rfl⟩
    rw [mkR_less e1, hY2, mkR_minus d1 e1] at hv
    replace w2 := w2.trans hY2
    have y2 : -70000 ≤ Y2 ∧ Y2 ≤ 64260 := by omega
    have b3 := mul_bound Y2 D2 70000 1020 (by omega) (by omega) (by omega) (by omega)
    have b4 := mul_bound D1 F2 70000 1020 (by omega) (by omega) (by omega) (by omega)
    have b5 := mul_bound D2 F2 1020 1020 (by omega) (by omega) (by omega) (by omega)
    have b6 := Int.mul_le_mul (show (1 : Int) ≤ D2 by omega) e1 (by omega) (by omega)
    have w3 : IntKind.i64.wrap (Y2 * D2) = Y2 * D2 := IntWalk.i64_in _ (by omega)
    have w4 : IntKind.i64.wrap (D1 * F2) = D1 * F2 := IntWalk.i64_in _ (by omega)
    have w5 : IntKind.i64.wrap (Y2 * D2 - D1 * F2) = Y2 * D2 - D1 * F2 := IntWalk.i64_in _ (by omega)
    have w6 : IntKind.i64.wrap (D2 * F2) = D2 * F2 := IntWalk.i64_in _ (by omega)
    obtain ⟨Y5, hY5⟩ : ∃ y, Y2 * D2 - D1 * F2 = y := ⟨_, rfl⟩
    obtain ⟨Y6, hY6⟩ : ∃ y, D2 * F2 = y := ⟨_, rfl⟩
    replace w5 := w5.trans hY5
    replace w6 := w6.trans hY6
    rw [hY5, hY6] at hv
    have y5 : -150000000 ≤ Y5 ∧ Y5 ≤ 150000000 := by omega
    have y6 : 1 ≤ Y6 ∧ Y6 ≤ 1040400 := by omega
    have fv : fits (mkR Y5 Y6) := mkR_fits y6.1 (by omega) (by omega) (by omega)
    have bv := mkR_bound Y5 Y6 150000000 1040400 y6.1 y6.2 y5.1 y5.2
    have HMk : ∀ w, Calls Try.prog 57 #[.int .i64 Y5, .int .i64 Y6] w fun e w' => e = .returned (.tuple #[.agg #[.int .i64 (fn v), .int .i64 (fd v)], .int .i64 0]) ∧ Below w.heap.size w w' := fun w => by
      have k := make_any Y5 Y6 (by omega) (by omega) (by omega) (by omega) w
      rw [show mA Y5 Y6 = _ from if_neg (by omega), show mB Y5 Y6 = _ from if_neg (by omega), show mE Y5 Y6 = _ from if_neg (by omega), show rn (mkR Y5 Y6) = _ from if_pos fv, show rd (mkR Y5 Y6) = _ from if_pos fv, show re (mkR Y5 Y6) = _ from if_pos fv, ← hv] at k
      exact k
    rw [← hv] at fv bv
    obtain ⟨-, -, ⟨sl, sh, fl, fh, rfl, rfl, rfl, rfl, hs⟩, ⟨tl, th, ftl, fth, rfl, rfl, rfl, rfl, ht⟩, s0, m1, m2', -, -⟩ := hg
    have HMu : ∀ s : Rat, fits s → smF (fn s) (fd s) → fits (v * s) ∧ ∀ w, Calls Try.prog 58 #[.agg #[.int .i64 (fn v), .int .i64 (fd v)], .agg #[.int .i64 (fn s), .int .i64 (fd s)]] w fun e w' => e = .returned (.tuple #[.agg #[.int .i64 (fn (v * s)), .int .i64 (fd (v * s))], .int .i64 0]) ∧ Below w.heap.size w w' := fun s fs ms => by
      have f : fits (v * s) := mul_fits (by omega) ms
      refine ⟨f, fun w => ?_⟩
      have k := mul_q v s fv fs w
      rw [show rn (v * s) = _ from if_pos f, show rd (v * s) = _ from if_pos f, show re (v * s) = _ from if_pos f] at k
      exact k
    obtain ⟨fL, HL⟩ := HMu sl fl m1
    obtain ⟨fH, HH⟩ := HMu sh fh m2'
    have IL := fun w => in_q tl th (v * sl) ftl fth fL ht w
    have IH := fun w => in_q tl th (v * sh) ftl fth fH ht w
    rcases hmea with ⟨-, -, rfl, rfl, rfl, rfl, hV⟩ | ⟨x, y, sl', sh', tl', th', A, B, hx, hy, hxy, -, -, -, -, -, -, p1, p2, p3, p4, p5, p6, p7, p8, -, -, hA, hB, fA, fB, hAB, rfl, rfl, rfl, rfl, hV⟩
    · obtain ⟨m, hm', -⟩ := FX_le (al_up (ms := ms) hz.2 on.1) (by rw [hL]; exact hu)
      rw [FX_scale] at hm'
      rw [hm'] at hV
      obtain rfl : V = 3 := hV
      have f0 : fits (0 : Rat) := of_decide_eq_true (by kernel_rfl)
      have JL := fun w => in_q 0 0 (v * sl) f0 f0 fL Rat.le_refl w
      have JH := fun w => in_q 0 0 (v * sh) f0 f0 fH Rat.le_refl w
      cases hb0
      · exact true_df t nz _ _ _ _ _ _ _ _ a n c zs a2 m2 c2 ms w hR hR2 hl L L.reverse _ _ _ 0 1 0 1 T _ _ _ _ _ _ _ _ _ _ _ _ _ _ _ hT hM w1 w2 w3 w4 w5 w6 HM HG HV HAL HRV HA HC HMk HL IL JL
      · exact true_dt t nz _ _ _ _ _ _ _ _ a n c zs a2 m2 c2 ms w hR hR2 hl L L.reverse _ _ _ 0 1 0 1 T _ _ _ _ _ _ _ _ _ _ _ _ _ _ _ hT hM w1 w2 w3 w4 w5 w6 HM HG HV HAL HRV HA HC HMk HH IH JH
    · obtain rfl : sl = sl' := q_ext p1 p2
      obtain rfl : sh = sh' := q_ext p3 p4
      obtain rfl : tl = tl' := q_ext p5 p6
      obtain rfl : th = th' := q_ext p7 p8
      obtain ⟨v1, hv1, k1⟩ := WX_le (al_lw (ms := ms) hz.2 on.1) (by rw [List.length_map, lwL_length]; omega) (by rw [WX_scale]; exact hx)
      rw [hL, ← eT, hw] at hv1
      obtain rfl := Option.some.inj hv1
      obtain ⟨v2, hv2, k2⟩ := WX_le (t := 4 * t) (al_up (ms := ms) hz.2 on.1) (by rw [alL_length]; omega) (by rw [hL, ← eT]; exact hw)
      rw [WX_scale, hy] at hv2
      obtain rfl := Option.some.inj hv2
      have cL := encl_mul (l := x) (h := y) (m := sl) (n := sh) (x := v) (y := sl) k1 k2 Rat.le_refl hs
      have cH := encl_mul (l := x) (h := y) (m := sl) (n := sh) (x := v) (y := sh) k1 k2 hs Rat.le_refl
      rw [← hA, ← hB] at cL cH
      have JL := fun w => in_q A B (v * sl) fA fB fL hAB w
      have JH := fun w => in_q A B (v * sh) fA fB fH hAB w
      rw [hasQ_iff.2 cL] at JL
      rw [hasQ_iff.2 cH] at JH
      rcases deV_three hAB ht with hd | hd | hd
      · rw [hd] at hV
        subst hV
        have k := deV_1 hAB ht hd
        rw [hasQ_iff.2 ⟨Rat.le_trans k.1 cL.1, Rat.le_trans cL.2 k.2⟩] at IL
        rw [hasQ_iff.2 ⟨Rat.le_trans k.1 cH.1, Rat.le_trans cH.2 k.2⟩] at IH
        cases hb0
        · exact true_af t nz _ _ _ _ _ _ _ _ a n c zs a2 m2 c2 ms w hR hR2 hl L L.reverse _ true true _ _ _ _ T _ _ _ _ _ _ _ _ _ _ _ _ _ _ _ hT hM w1 w2 w3 w4 w5 w6 HM HG HV HAL HRV HA HC HMk HL IL JL
        · exact true_at t nz _ _ _ _ _ _ _ _ a n c zs a2 m2 c2 ms w hR hR2 hl L L.reverse _ true true _ _ _ _ T _ _ _ _ _ _ _ _ _ _ _ _ _ _ _ hT hM w1 w2 w3 w4 w5 w6 HM HG HV HAL HRV HA HC HMk HH IH JH
      · rw [hd] at hV
        subst hV
        have k := deV_2 hAB ht hd
        have nL : hasQ tl th (v * sl) = false := by
          cases h : hasQ tl th (v * sl) with
          | false => rfl
          | true => exfalso; have := hasQ_iff.1 h; rcases k with k | k <;> grind
        have nH : hasQ tl th (v * sh) = false := by
          cases h : hasQ tl th (v * sh) with
          | false => rfl
          | true => exfalso; have := hasQ_iff.1 h; rcases k with k | k <;> grind
        rw [nL] at IL
        rw [nH] at IH
        cases hb0
        · exact true_bf t nz _ _ _ _ _ _ _ _ a n c zs a2 m2 c2 ms w hR hR2 hl L L.reverse _ true true _ _ _ _ T _ _ _ _ _ _ _ _ _ _ _ _ _ _ _ hT hM w1 w2 w3 w4 w5 w6 HM HG HV HAL HRV HA HC HMk HL IL JL
        · exact true_bt t nz _ _ _ _ _ _ _ _ a n c zs a2 m2 c2 ms w hR hR2 hl L L.reverse _ true true _ _ _ _ T _ _ _ _ _ _ _ _ _ _ _ _ _ _ _ hT hM w1 w2 w3 w4 w5 w6 HM HG HV HAL HRV HA HC HMk HH IH JH
      · rw [hd] at hV
        subst hV
        cases hb0
        · exact true_cf t nz _ _ _ _ _ _ _ _ a n c zs a2 m2 c2 ms w hR hR2 hl L L.reverse _ _ true _ _ _ _ T _ _ _ _ _ _ _ _ _ _ _ _ _ _ _ hT hM w1 w2 w3 w4 w5 w6 HM HG HV HAL HRV HA HC HMk HL IL JL
        · exact true_ct t nz _ _ _ _ _ _ _ _ a n c zs a2 m2 c2 ms w hR hR2 hl L L.reverse _ _ true _ _ _ _ T _ _ _ _ _ _ _ _ _ _ _ _ _ _ _ hT hM w1 w2 w3 w4 w5 w6 HM HG HV HAL HRV HA HC HMk HH IH JH
end Go.Proofs.Ytbcgebobfnclnaa
