/-
  Layer 2: which warps are valid, by the code and by the document.
-/
import Derived.Test.YtihefdlolfpbnaaISource
namespace Go.Proofs.Ytihefdlolfpbnaa
open Go.RowKit
set_option linter.unusedVariables false
set_option linter.unusedSimpArgs false

/-- A warp that is valid. -/
def okT (tA tB tC tD tE tF tG : Int) : Prop := (okFa tA ∧ okFa tB ∧ okFa tC ∧ okFa tD ∧ okFa tE ∧ okFa tF) ∧ 1 ≤ tG ∧ tG ≤ 65536
instance (tA tB tC tD tE tF tG : Int) : Decidable (okT tA tB tC tD tE tF tG) := inferInstanceAs (Decidable (_ ∧ _))
theorem within_fa (n : Int) (w : World) : Calls Try.prog 99 #[.int .i64 n, .int .i64 65536] w fun e w' => e = .returned (.bool (decide (okFa n))) ∧ w = w' := by
  by_cases h : okFa n
  · rw [decide_eq_true h]; exact within_yes n 65536 (by omega) (by omega) h w
  · rw [decide_eq_false h]; exact within_no n 65536 (by omega) (by omega) (by unfold okFa at h; omega) w
theorem rwithin_fa (n : Int) (w : World) : Calls Try.prog 96 #[.int .i64 n, .int .i64 (-65536), .int .i64 65536] w fun e w' => e = .returned (.bool (decide (okFa n))) ∧ w = w' :=
  rwithin_any n _ _ _ decide_eq_true_iff w
/-- What the first numbers of a warp are known to be. -/
def Six (tA tB tC tD tE tF k : Int) : Prop := (0 < k → okFa tA) ∧ (1 < k → okFa tB) ∧ (2 < k → okFa tC) ∧ (3 < k → okFa tD) ∧ (4 < k → okFa tE) ∧ (5 < k → okFa tF)
theorem Six.start (tA tB tC tD tE tF : Int) : Six tA tB tC tD tE tF 0 := ⟨fun h => absurd h (by omega), fun h => absurd h (by omega), fun h => absurd h (by omega), fun h => absurd h (by omega), fun h => absurd h (by omega), fun h => absurd h (by omega)⟩
theorem Six.all {tA tB tC tD tE tF : Int} (h : Six tA tB tC tD tE tF 6) : okFa tA ∧ okFa tB ∧ okFa tC ∧ okFa tD ∧ okFa tE ∧ okFa tF := ⟨h.1 (by omega), h.2.1 (by omega), h.2.2.1 (by omega), h.2.2.2.1 (by omega), h.2.2.2.2.1 (by omega), h.2.2.2.2.2 (by omega)⟩

theorem Six.s0 {tA tB tC tD tE tF : Int} (h : Six tA tB tC tD tE tF 0) (ok : okFa tA) : Six tA tB tC tD tE tF 1 := ⟨fun _ => ok, fun q => absurd q (by omega), fun q => absurd q (by omega), fun q => absurd q (by omega), fun q => absurd q (by omega), fun q => absurd q (by omega)⟩
theorem Six.s1 {tA tB tC tD tE tF : Int} (h : Six tA tB tC tD tE tF 1) (ok : okFa tB) : Six tA tB tC tD tE tF 2 := ⟨fun _ => h.1 (by omega), fun _ => ok, fun q => absurd q (by omega), fun q => absurd q (by omega), fun q => absurd q (by omega), fun q => absurd q (by omega)⟩
theorem Six.s2 {tA tB tC tD tE tF : Int} (h : Six tA tB tC tD tE tF 2) (ok : okFa tC) : Six tA tB tC tD tE tF 3 := ⟨fun _ => h.1 (by omega), fun _ => h.2.1 (by omega), fun _ => ok, fun q => absurd q (by omega), fun q => absurd q (by omega), fun q => absurd q (by omega)⟩
theorem Six.s3 {tA tB tC tD tE tF : Int} (h : Six tA tB tC tD tE tF 3) (ok : okFa tD) : Six tA tB tC tD tE tF 4 := ⟨fun _ => h.1 (by omega), fun _ => h.2.1 (by omega), fun _ => h.2.2.1 (by omega), fun _ => ok, fun q => absurd q (by omega), fun q => absurd q (by omega)⟩
theorem Six.s4 {tA tB tC tD tE tF : Int} (h : Six tA tB tC tD tE tF 4) (ok : okFa tE) : Six tA tB tC tD tE tF 5 := ⟨fun _ => h.1 (by omega), fun _ => h.2.1 (by omega), fun _ => h.2.2.1 (by omega), fun _ => h.2.2.2.1 (by omega), fun _ => ok, fun q => absurd q (by omega)⟩
theorem Six.s5 {tA tB tC tD tE tF : Int} (h : Six tA tB tC tD tE tF 5) (ok : okFa tF) : Six tA tB tC tD tE tF 6 := ⟨fun _ => h.1 (by omega), fun _ => h.2.1 (by omega), fun _ => h.2.2.1 (by omega), fun _ => h.2.2.2.1 (by omega), fun _ => h.2.2.2.2.1 (by omega), fun _ => ok⟩
theorem okT_no {tA tB tC tD tE tF tG : Int} (x : Int) (hx : ¬ okFa x) (hm : x = tA ∨ x = tB ∨ x = tC ∨ x = tD ∨ x = tE ∨ x = tF) : decide (okT tA tB tC tD tE tF tG) = false :=
  decide_eq_false (fun h => by obtain ⟨⟨a, b, c, d, e, f⟩, _⟩ := h; rcases hm with rfl | rfl | rfl | rfl | rfl | rfl <;> exact hx (by assumption))

set_option maxRecDepth 100000 in
set_option maxHeartbeats 4000000 in
theorem isWarp_any (tA tB tC tD tE tF tG : Int) (w : World) :
    Calls Try.prog 79 #[.agg #[.int .i64 tA, .int .i64 tB, .int .i64 tC, .int .i64 tD, .int .i64 tE, .int .i64 tF, .int .i64 tG]] w fun e w' => e = .returned (.bool (decide (okT tA tB tC tD tE tF tG))) ∧ Below w.heap.size w w' := by
  have i0 : ∀ w, (Instr.index 127 (.agg #[.int .i64 tA, .int .i64 tB, .int .i64 tC, .int .i64 tD, .int .i64 tE, .int .i64 tF]) (.int .i64 0)).run Try.prog w = .ok (.int .i64 tA) w := fun _ => by kernel_rfl
  have i1 : ∀ w, (Instr.index 127 (.agg #[.int .i64 tA, .int .i64 tB, .int .i64 tC, .int .i64 tD, .int .i64 tE, .int .i64 tF]) (.int .i64 1)).run Try.prog w = .ok (.int .i64 tB) w := fun _ => by kernel_rfl
  have i2 : ∀ w, (Instr.index 127 (.agg #[.int .i64 tA, .int .i64 tB, .int .i64 tC, .int .i64 tD, .int .i64 tE, .int .i64 tF]) (.int .i64 2)).run Try.prog w = .ok (.int .i64 tC) w := fun _ => by kernel_rfl
  have i3 : ∀ w, (Instr.index 127 (.agg #[.int .i64 tA, .int .i64 tB, .int .i64 tC, .int .i64 tD, .int .i64 tE, .int .i64 tF]) (.int .i64 3)).run Try.prog w = .ok (.int .i64 tD) w := fun _ => by kernel_rfl
  have i4 : ∀ w, (Instr.index 127 (.agg #[.int .i64 tA, .int .i64 tB, .int .i64 tC, .int .i64 tD, .int .i64 tE, .int .i64 tF]) (.int .i64 4)).run Try.prog w = .ok (.int .i64 tE) w := fun _ => by kernel_rfl
  have i5 : ∀ w, (Instr.index 127 (.agg #[.int .i64 tA, .int .i64 tB, .int .i64 tC, .int .i64 tD, .int .i64 tE, .int .i64 tF]) (.int .i64 5)).run Try.prog w = .ok (.int .i64 tF) w := fun _ => by kernel_rfl
  go_enter Try.func79, Try.ntmps79
  go_wp2
  go_loop [18] (fun i => ∃ k : Int, (0 ≤ k ∧ k ≤ 6) ∧ i = .int .i64 k ∧ Hid (Six tA tB tC tD tE tF k)) (fun i => (6 - intOf i).toNat)
  case atStart => exact ⟨0, by omega, rfl, Six.start _ _ _ _ _ _⟩
  case round =>
    obtain ⟨k, hk, rfl, hs⟩ := hrel
    have hc : k = 0 ∨ k = 1 ∨ k = 2 ∨ k = 3 ∨ k = 4 ∨ k = 5 ∨ k = 6 := by omega
    rcases hc with rfl | rfl | rfl | rfl | rfl | rfl | rfl
    · by_cases hv : okFa tA
      · have dv : decide (okFa tA) = true := decide_eq_true hv
        have hs' := Lib.hid (hs.out.s0 hv)
        clear hv
        go_wp2_with (go_at_call 99; (with_reducible refine (within_fa _ _).mono ?_); rintro e w1 ⟨rfl, rfl⟩)
        go_round
        case rel => exact ⟨1, by omega, rfl, hs'⟩
        case measure => simp [intOf]
      · have dv : decide (okFa tA) = false := decide_eq_false hv
        have he := okT_no (tA := tA) (tB := tB) (tC := tC) (tD := tD) (tE := tE) (tF := tF) (tG := tG) tA hv (by simp)
        clear hv
        go_wp2_with (go_at_call 99; (with_reducible refine (within_fa _ _).mono ?_); rintro e w1 ⟨rfl, rfl⟩)
        go_ret
        exact ⟨by first | rfl | (rw [he]; rfl), by (repeat' (first | (with_reducible exact Below.refl _ _) | (with_reducible assumption) | (with_reducible refine belowThru ?_ (by assumption)) | (with_reducible refine belowAlloc ?_) | (with_reducible refine Below.setCell ?_ (by first | omega | (simp; done) | (simp; omega)) _) | (with_reducible refine Below.drew ?_) | (with_reducible refine below_drewN ?_ _)))⟩
    · by_cases hv : okFa tB
      · have dv : decide (okFa tB) = true := decide_eq_true hv
        have hs' := Lib.hid (hs.out.s1 hv)
        clear hv
        go_wp2_with (go_at_call 99; (with_reducible refine (within_fa _ _).mono ?_); rintro e w1 ⟨rfl, rfl⟩)
        go_round
        case rel => exact ⟨2, by omega, rfl, hs'⟩
        case measure => simp [intOf]
      · have dv : decide (okFa tB) = false := decide_eq_false hv
        have he := okT_no (tA := tA) (tB := tB) (tC := tC) (tD := tD) (tE := tE) (tF := tF) (tG := tG) tB hv (by simp)
        clear hv
        go_wp2_with (go_at_call 99; (with_reducible refine (within_fa _ _).mono ?_); rintro e w1 ⟨rfl, rfl⟩)
        go_ret
        exact ⟨by first | rfl | (rw [he]; rfl), by (repeat' (first | (with_reducible exact Below.refl _ _) | (with_reducible assumption) | (with_reducible refine belowThru ?_ (by assumption)) | (with_reducible refine belowAlloc ?_) | (with_reducible refine Below.setCell ?_ (by first | omega | (simp; done) | (simp; omega)) _) | (with_reducible refine Below.drew ?_) | (with_reducible refine below_drewN ?_ _)))⟩
    · by_cases hv : okFa tC
      · have dv : decide (okFa tC) = true := decide_eq_true hv
        have hs' := Lib.hid (hs.out.s2 hv)
        clear hv
        go_wp2_with (go_at_call 99; (with_reducible refine (within_fa _ _).mono ?_); rintro e w1 ⟨rfl, rfl⟩)
        go_round
        case rel => exact ⟨3, by omega, rfl, hs'⟩
        case measure => simp [intOf]
      · have dv : decide (okFa tC) = false := decide_eq_false hv
        have he := okT_no (tA := tA) (tB := tB) (tC := tC) (tD := tD) (tE := tE) (tF := tF) (tG := tG) tC hv (by simp)
        clear hv
        go_wp2_with (go_at_call 99; (with_reducible refine (within_fa _ _).mono ?_); rintro e w1 ⟨rfl, rfl⟩)
        go_ret
        exact ⟨by first | rfl | (rw [he]; rfl), by (repeat' (first | (with_reducible exact Below.refl _ _) | (with_reducible assumption) | (with_reducible refine belowThru ?_ (by assumption)) | (with_reducible refine belowAlloc ?_) | (with_reducible refine Below.setCell ?_ (by first | omega | (simp; done) | (simp; omega)) _) | (with_reducible refine Below.drew ?_) | (with_reducible refine below_drewN ?_ _)))⟩
    · by_cases hv : okFa tD
      · have dv : decide (okFa tD) = true := decide_eq_true hv
        have hs' := Lib.hid (hs.out.s3 hv)
        clear hv
        go_wp2_with (go_at_call 99; (with_reducible refine (within_fa _ _).mono ?_); rintro e w1 ⟨rfl, rfl⟩)
        go_round
        case rel => exact ⟨4, by omega, rfl, hs'⟩
        case measure => simp [intOf]
      · have dv : decide (okFa tD) = false := decide_eq_false hv
        have he := okT_no (tA := tA) (tB := tB) (tC := tC) (tD := tD) (tE := tE) (tF := tF) (tG := tG) tD hv (by simp)
        clear hv
        go_wp2_with (go_at_call 99; (with_reducible refine (within_fa _ _).mono ?_); rintro e w1 ⟨rfl, rfl⟩)
        go_ret
        exact ⟨by first | rfl | (rw [he]; rfl), by (repeat' (first | (with_reducible exact Below.refl _ _) | (with_reducible assumption) | (with_reducible refine belowThru ?_ (by assumption)) | (with_reducible refine belowAlloc ?_) | (with_reducible refine Below.setCell ?_ (by first | omega | (simp; done) | (simp; omega)) _) | (with_reducible refine Below.drew ?_) | (with_reducible refine below_drewN ?_ _)))⟩
    · by_cases hv : okFa tE
      · have dv : decide (okFa tE) = true := decide_eq_true hv
        have hs' := Lib.hid (hs.out.s4 hv)
        clear hv
        go_wp2_with (go_at_call 99; (with_reducible refine (within_fa _ _).mono ?_); rintro e w1 ⟨rfl, rfl⟩)
        go_round
        case rel => exact ⟨5, by omega, rfl, hs'⟩
        case measure => simp [intOf]
      · have dv : decide (okFa tE) = false := decide_eq_false hv
        have he := okT_no (tA := tA) (tB := tB) (tC := tC) (tD := tD) (tE := tE) (tF := tF) (tG := tG) tE hv (by simp)
        clear hv
        go_wp2_with (go_at_call 99; (with_reducible refine (within_fa _ _).mono ?_); rintro e w1 ⟨rfl, rfl⟩)
        go_ret
        exact ⟨by first | rfl | (rw [he]; rfl), by (repeat' (first | (with_reducible exact Below.refl _ _) | (with_reducible assumption) | (with_reducible refine belowThru ?_ (by assumption)) | (with_reducible refine belowAlloc ?_) | (with_reducible refine Below.setCell ?_ (by first | omega | (simp; done) | (simp; omega)) _) | (with_reducible refine Below.drew ?_) | (with_reducible refine below_drewN ?_ _)))⟩
    · by_cases hv : okFa tF
      · have dv : decide (okFa tF) = true := decide_eq_true hv
        have hs' := Lib.hid (hs.out.s5 hv)
        clear hv
        go_wp2_with (go_at_call 99; (with_reducible refine (within_fa _ _).mono ?_); rintro e w1 ⟨rfl, rfl⟩)
        go_round
        case rel => exact ⟨6, by omega, rfl, hs'⟩
        case measure => simp [intOf]
      · have dv : decide (okFa tF) = false := decide_eq_false hv
        have he := okT_no (tA := tA) (tB := tB) (tC := tC) (tD := tD) (tE := tE) (tF := tF) (tG := tG) tF hv (by simp)
        clear hv
        go_wp2_with (go_at_call 99; (with_reducible refine (within_fa _ _).mono ?_); rintro e w1 ⟨rfl, rfl⟩)
        go_ret
        exact ⟨by first | rfl | (rw [he]; rfl), by (repeat' (first | (with_reducible exact Below.refl _ _) | (with_reducible assumption) | (with_reducible refine belowThru ?_ (by assumption)) | (with_reducible refine belowAlloc ?_) | (with_reducible refine Below.setCell ?_ (by first | omega | (simp; done) | (simp; omega)) _) | (with_reducible refine Below.drew ?_) | (with_reducible refine below_drewN ?_ _)))⟩
    · have ha := Lib.hid hs.out.all
      by_cases h1 : 1 ≤ tG
      · by_cases h2 : tG ≤ 65536
        · have he : decide (okT tA tB tC tD tE tF tG) = true := decide_eq_true ⟨ha.out, h1, h2⟩
          go_wp2
          go_ret
          exact ⟨by first | rfl | (rw [he]; rfl), by (repeat' (first | (with_reducible exact Below.refl _ _) | (with_reducible assumption) | (with_reducible refine belowThru ?_ (by assumption)) | (with_reducible refine belowAlloc ?_) | (with_reducible refine Below.setCell ?_ (by first | omega | (simp; done) | (simp; omega)) _) | (with_reducible refine Below.drew ?_) | (with_reducible refine below_drewN ?_ _)))⟩
        · have he : decide (okT tA tB tC tD tE tF tG) = false := decide_eq_false (fun h => h2 h.2.2)
          go_wp2
          go_ret
          exact ⟨by first | rfl | (rw [he]; rfl), by (repeat' (first | (with_reducible exact Below.refl _ _) | (with_reducible assumption) | (with_reducible refine belowThru ?_ (by assumption)) | (with_reducible refine belowAlloc ?_) | (with_reducible refine Below.setCell ?_ (by first | omega | (simp; done) | (simp; omega)) _) | (with_reducible refine Below.drew ?_) | (with_reducible refine below_drewN ?_ _)))⟩
      · have he : decide (okT tA tB tC tD tE tF tG) = false := decide_eq_false (fun h => h1 h.2.1)
        go_wp2
        go_ret
        exact ⟨by first | rfl | (rw [he]; rfl), by (repeat' (first | (with_reducible exact Below.refl _ _) | (with_reducible assumption) | (with_reducible refine belowThru ?_ (by assumption)) | (with_reducible refine belowAlloc ?_) | (with_reducible refine Below.setCell ?_ (by first | omega | (simp; done) | (simp; omega)) _) | (with_reducible refine Below.drew ?_) | (with_reducible refine below_drewN ?_ _)))⟩


theorem rwithin_den (n : Int) (w : World) : Calls Try.prog 96 #[.int .i64 n, .int .i64 1, .int .i64 65536] w fun e w' => e = .returned (.bool (decide (1 ≤ n ∧ n ≤ 65536))) ∧ w = w' :=
  rwithin_any n _ _ _ decide_eq_true_iff w
end Go.Proofs.Ytihefdlolfpbnaa
