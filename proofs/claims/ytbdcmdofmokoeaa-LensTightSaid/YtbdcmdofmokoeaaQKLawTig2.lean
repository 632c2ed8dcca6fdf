/-
  LensTight: the law.
-/
import Derived.Test.YtbdcmdofmokoeaaQKLawTig
import Derived.Test.YtbdcmdofmokoeaaQKLawAdd
namespace Go.Proofs.Ytbdcmdofmokoeaa
open Go.RowKit Go.Shelf
set_option linter.unusedVariables false
set_option linter.unusedSimpArgs false

theorem raC_four (x z : Int) (vs : List Vw) : ∃ r1 r2 r3 r4 : Int, raC x z vs = #[.int .i64 r1, .int .i64 r2, .int .i64 r3, .int .i64 r4] := by
  unfold raC
  split
  · cases plaS x z vs with
    | none => exact ⟨0, 0, 0, 0, rfl⟩
    | some p => exact ⟨_, _, _, _, rfl⟩
  · exact ⟨0, 0, 0, 0, rfl⟩
theorem raE_zero {x z : Int} {vs : List Vw} (h : raE x z vs = 0) : ckV vs = 0 ∧ InG x z ∧ foE (focS vs) = 0 := by
  unfold raE at h
  by_cases h1 : ckV vs = 0
  · rw [if_neg (fun k => k h1)] at h
    by_cases h2 : InG x z
    · rw [if_neg (fun k => k h2)] at h; exact ⟨h1, h2, h⟩
    · rw [if_pos h2] at h; cases h
  · rw [if_pos h1] at h; exact absurd h h1
theorem raE_of {x z : Int} {vs : List Vw} (h1 : ckV vs = 0) (h2 : InG x z) : raE x z vs = foE (focS vs) := (if_neg (fun k => k h1)).trans (if_neg (fun k => k h2))
theorem vrow_one {w : World} {b : Nat} {X Z lo hi : Int} (h : Blk w b #[.int .i64 X, .int .i64 Z, .int .i64 lo, .int .i64 hi] 45) : VRow w (some ⟨b, 0, none⟩) 1 [(X, Z, lo, hi)] := by
  obtain ⟨a0, c0, e0, hr, -⟩ := (OwnV.one h (Nat.zero_le b)).row
  cases e0; exact hr
theorem inV_of_ck {v : Vw} (h : ckV [v] = 0) : InV v := (ckV_ok h).2 v (by simp)
theorem fits_small {n : Int} (h : -4096 ≤ n ∧ n ≤ 4096) : fits (n : Rat) := by unfold fits; rw [show fn (n : Rat) = n from rfl, show fd (n : Rat) = 1 from rfl]; omega
set_option maxRecDepth 100000 in
set_option maxHeartbeats 4000000 in
theorem lawTig_true (a : Option Addr) (n c : Nat) (vs : List Vw) (X Z lo hi : Int) (w : World) (hR : VRow w a n vs) : Calls Try.prog 9 #[.slice a n c, .agg #[.int .i64 X, .int .i64 Z, .int .i64 lo, .int .i64 hi]] w fun e w' => e = .returned (.bool true) ∧ Below w.heap.size w w' := by
  have HAl := Lib.hid alive_true
  have HR := Lib.hid hR
  have hl := hR.1
  by_cases hn : n ≤ 11
  · have HX : ∀ W : World, VRow W a n vs → _ := fun W h => range_any a n c X Z vs W h
    by_cases hE : raE X Z vs = 0
    · obtain ⟨hk, hg, hf⟩ := raE_zero hE
      obtain ⟨-, hV⟩ := ckV_ok hk
      obtain ⟨L, H, hs, hne, -⟩ := foE_zero hf
      obtain ⟨q, hq⟩ := pla_of_foc hV hg hs
      obtain ⟨A, B⟩ := q
      have eC : raC X Z vs = spC (A, B) := by unfold raC; rw [if_pos hE, hq]; rfl
      rw [hE, eC] at HX
      have HV : ∀ (b : Nat) (W : World), Blk W b #[.int .i64 X, .int .i64 Z, .int .i64 lo, .int .i64 hi] 45 → _ := fun b W h => views_any (some ⟨b, 0, none⟩) 1 1 [(X, Z, lo, hi)] W (vrow_one h)
      by_cases hc : ckV [(X, Z, lo, hi)] = 0
      · rw [hc] at HV
        have hv := inV_of_ck hc
        have hV' := inV_snoc hV hv
        have hlm : (vs ++ [(X, Z, lo, hi)]).length = n + 1 := by simp [hl]
        have hkm : ckV (vs ++ [(X, Z, lo, hi)]) = 0 := ckV_yes (by omega) hV'
        have HF : ∀ (a2 : Option Addr) (c2 : Nat) (W : World), n + 1 ≤ c2 → VRow W a2 (n + 1) (vs ++ [(X, Z, lo, hi)]) → _ := fun a2 c2 W h1 h2 => bad_any a2 (n + 1) c2 (vs ++ [(X, Z, lo, hi)]) h1 W h2
        have hb : baV (vs ++ [(X, Z, lo, hi)]) = if focS (vs ++ [(X, Z, lo, hi)]) = none then (n : Int) else -1 := by rw [show baV (vs ++ [(X, Z, lo, hi)]) = bdI (vs ++ [(X, Z, lo, hi)]) from if_pos hkm, bdI_snoc hV hv hs, hl]
        rw [hkm, hb] at HF
        have HS := Lib.hid (span_any lo hi)
        have fl := fits_small (show -4096 ≤ lo ∧ lo ≤ 4096 from hv.2.1.1)
        have fh := fits_small (show -4096 ≤ hi ∧ hi ≤ 4096 from hv.2.1.2)
        have hlh : (lo : Rat) ≤ (hi : Rat) := Rat.intCast_le_intCast.2 hv.2.2
        obtain ⟨fA, fB, hAB, -⟩ := pla_some hV hg hq
        obtain ⟨M1, M2, M3, M4, E, HE, hm⟩ := meet_q A B (lo : Rat) (hi : Rat) fA fB fl fh hAB hlh
        have HG : ∀ (a2 : Option Addr) (c2 : Nat) (W : World), n + 1 ≤ c2 → VRow W a2 (n + 1) (vs ++ [(X, Z, lo, hi)]) → _ := fun a2 c2 W h1 h2 => range_any a2 (n + 1) c2 X Z (vs ++ [(X, Z, lo, hi)]) W h2
        have eG := raE_of (vs := vs ++ [(X, Z, lo, hi)]) hkm hg
        rcases hm with ⟨rfl, hno⟩ | ⟨rfl, hyes, m1, m2, m3, m4⟩
        · have hnone := (tight_none hV hv hq).2 hno
          rw [hnone, if_pos rfl] at HF
          have eG' : raE X Z (vs ++ [(X, Z, lo, hi)]) = 6 := by rw [eG, hnone]; rfl
          obtain ⟨s1, s2, s3, s4, hs4⟩ := raC_four X Z (vs ++ [(X, Z, lo, hi)])
          rw [eG', hs4] at HG
          exact tig_3 a n c vs X Z lo hi _ _ _ _ M1 M2 M3 M4 s1 s2 s3 s4 0 0 w hn hl (beq_false_of_ne (by omega)) HR HAl (Lib.hid HX) (Lib.hid HV) (Lib.hid HF) HS (Lib.hid HE) (Lib.hid HG)
        · have hsome : focS (vs ++ [(X, Z, lo, hi)]) ≠ none := fun h => (tight_none hV hv hq).1 h hyes
          rw [if_neg hsome] at HF
          have hnl := tight_foc hV hv hs hne
          have ez : foE (focS (vs ++ [(X, Z, lo, hi)])) = 0 := by
            cases hfm : focS (vs ++ [(X, Z, lo, hi)]) with
            | none => exact absurd hfm hsome
            | some p => exact if_neg (fun h => hnl (by rw [hfm, h]))
          have eG' : raE X Z (vs ++ [(X, Z, lo, hi)]) = 0 := by rw [eG, ez]
          have eH : raC X Z (vs ++ [(X, Z, lo, hi)]) = spC (hiQ A [(lo : Rat)], loQ B [(hi : Rat)]) := by
            unfold raC; rw [if_pos eG', show plaS X Z (vs ++ [(X, Z, lo, hi)]) = some (hiQ A [(lo : Rat)], loQ B [(hi : Rat)]) from tight_some hV hv hq hyes]; rfl
          rw [eG', eH] at HG
          unfold spC at HG
          dsimp only at HG
          rw [← m1, ← m2, ← m3, ← m4] at HG
          exact tig_4 a n c vs X Z lo hi _ _ _ _ M1 M2 M3 M4 0 0 0 0 0 0 w hn hl (beq_false_of_ne (by omega)) HR HAl (Lib.hid HX) (Lib.hid HV) (Lib.hid HF) HS (Lib.hid HE) (Lib.hid HG)
      · exact tig_2 a n c vs X Z lo hi _ _ _ _ 0 0 0 0 0 0 0 0 0 _ w hn (ne0 hc) HR HAl (Lib.hid HX) (Lib.hid HV)
    · obtain ⟨r1, r2, r3, r4, h4⟩ := raC_four X Z vs
      rw [h4] at HX
      exact tig_1 a n c vs X Z lo hi r1 r2 r3 r4 0 0 0 0 0 0 0 0 _ 0 w hn (ne0 hE) HR HAl (Lib.hid HX)
  · exact tig_0 a n c vs X Z lo hi 0 0 0 0 0 0 0 0 0 0 0 0 0 0 w (by omega) HR HAl
end Go.Proofs.Ytbdcmdofmokoeaa
