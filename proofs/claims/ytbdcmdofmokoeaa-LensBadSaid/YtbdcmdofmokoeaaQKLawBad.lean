/-
  LensBad: the walks and the law.
-/
import Derived.Test.YtbdcmdofmokoeaaQKLawAdd
namespace Go.Proofs.Ytbdcmdofmokoeaa
open Go.RowKit Go.Shelf
set_option linter.unusedVariables false
set_option linter.unusedSimpArgs false

theorem caV_eight (vs : List Vw) : ∃ c1 c2 c3 c4 c5 c6 c7 c8 : Int, caV vs = #[.int .i64 c1, .int .i64 c2, .int .i64 c3, .int .i64 c4, .int .i64 c5, .int .i64 c6, .int .i64 c7, .int .i64 c8] := by
  unfold caV
  split
  · unfold caC
    split
    · exact ⟨_, _, _, _, _, _, _, _, rfl⟩
    · exact ⟨0, 0, 0, 0, 0, 0, 0, 0, rfl⟩
  · exact ⟨0, 0, 0, 0, 0, 0, 0, 0, rfl⟩
theorem caE_six {vs : List Vw} (hV : ∀ v ∈ vs, InV v) (hl : vs.length ≤ 12) : (caE vs == 6) = (focS vs).isNone := by
  have e1 : caE vs = foE (focS vs) := if_neg (by rw [ckV_yes hl hV]; decide)
  rw [e1]
  cases h : focS vs with
  | none => rfl
  | some p =>
    by_cases c : p = allM
    · rw [show foE (some p) = 43 from if_pos c]; rfl
    · rw [show foE (some p) = 0 from if_neg c]; rfl
set_option maxRecDepth 100000 in
set_option maxHeartbeats 16000000 in
theorem lbad_0 (a : Option Addr) (n c : Nat) (vs : List Vw) (E : Int) (w : World) (hn : 12 < n) (HR : Hid (VRow w a n vs)) (HAl : Hid (∀ w : World, Calls Try.prog 23 #[] w fun e w' => e = .returned (.bool true) ∧ Below w.heap.size w w'))  :
    Calls Try.prog 11 #[.slice a n c] w fun e w' => e = .returned (.bool true) ∧ Below w.heap.size w w' := by
  have hn1 : decide ((12 : Int) < (n : Int)) = true := by simp; omega
  go_enter Try.func11, Try.ntmps11
  go_wp2_with fail
  refine (HAl.out _).mono ?_
  rintro e w1 ⟨rfl, hb⟩
  have hBw : Below w.heap.size w w1 := by (repeat' (first | (with_reducible exact Below.refl _ _) | (with_reducible assumption) | (with_reducible refine belowThru ?_ (by assumption)) | (with_reducible refine belowAlloc ?_) | (with_reducible refine Below.setCell ?_ (by first | omega | (simp; done) | (simp; omega)) _) | (with_reducible refine Below.drew ?_) | (with_reducible refine below_drewN ?_ _)))
  have hzw1 := hBw.size
  clear hb
  go_wp2_with fail
  go_ret
  exact ⟨rfl, by (repeat' (first | (with_reducible exact Below.refl _ _) | (with_reducible assumption) | (with_reducible refine belowThru ?_ (by assumption)) | (with_reducible refine belowAlloc ?_) | (with_reducible refine Below.setCell ?_ (by first | omega | (simp; done) | (simp; omega)) _) | (with_reducible refine Below.drew ?_) | (with_reducible refine below_drewN ?_ _)))⟩
set_option maxRecDepth 100000 in
set_option maxHeartbeats 16000000 in
theorem lbad_1 (a : Option Addr) (n c : Nat) (vs : List Vw) (E : Int) (w : World) (hn : n ≤ 12) (hE : (E != 0) = true) (HR : Hid (VRow w a n vs)) (HAl : Hid (∀ w : World, Calls Try.prog 23 #[] w fun e w' => e = .returned (.bool true) ∧ Below w.heap.size w w')) (HF : Hid (∀ W : World, VRow W a n vs → Calls Try.prog 22 #[.slice a n c] W fun e W' => e = .returned (.tuple #[.int .i64 0, .int .i64 E]) ∧ Below W.heap.size W W')) :
    Calls Try.prog 11 #[.slice a n c] w fun e w' => e = .returned (.bool true) ∧ Below w.heap.size w w' := by
  have hn1 : decide ((12 : Int) < (n : Int)) = false := by simp; omega
  go_enter Try.func11, Try.ntmps11
  go_wp2_with fail
  refine (HAl.out _).mono ?_
  rintro e w1 ⟨rfl, hb⟩
  have hBw : Below w.heap.size w w1 := by (repeat' (first | (with_reducible exact Below.refl _ _) | (with_reducible assumption) | (with_reducible refine belowThru ?_ (by assumption)) | (with_reducible refine belowAlloc ?_) | (with_reducible refine Below.setCell ?_ (by first | omega | (simp; done) | (simp; omega)) _) | (with_reducible refine Below.drew ?_) | (with_reducible refine below_drewN ?_ _)))
  have hzw1 := hBw.size
  clear hb
  go_wp2_with fail
  refine (HF.out _ (HR.out.later (by (repeat' (first | (with_reducible exact Below.refl _ _) | (with_reducible assumption) | (with_reducible refine belowThru ?_ (by assumption)) | (with_reducible refine belowAlloc ?_) | (with_reducible refine Below.setCell ?_ (by first | omega | (simp; done) | (simp; omega)) _) | (with_reducible refine Below.drew ?_) | (with_reducible refine below_drewN ?_ _)))))).mono ?_
  rintro e w2 ⟨rfl, hb⟩
  replace hBw : Below w.heap.size w w2 := belowThru (by (repeat' (first | (with_reducible exact Below.refl _ _) | (with_reducible assumption) | (with_reducible refine belowThru ?_ (by assumption)) | (with_reducible refine belowAlloc ?_) | (with_reducible refine Below.setCell ?_ (by first | omega | (simp; done) | (simp; omega)) _) | (with_reducible refine Below.drew ?_) | (with_reducible refine below_drewN ?_ _)))) hb
  have hzw2 := hBw.size
  clear hb
  go_wp2_with fail
  go_ret
  exact ⟨rfl, by (repeat' (first | (with_reducible exact Below.refl _ _) | (with_reducible assumption) | (with_reducible refine belowThru ?_ (by assumption)) | (with_reducible refine belowAlloc ?_) | (with_reducible refine Below.setCell ?_ (by first | omega | (simp; done) | (simp; omega)) _) | (with_reducible refine Below.drew ?_) | (with_reducible refine below_drewN ?_ _)))⟩
set_option maxRecDepth 100000 in
set_option maxHeartbeats 16000000 in
theorem lbad_2 (a : Option Addr) (n c : Nat) (vs : List Vw) (nb : Int) (w : World) (hn : n ≤ 12) (hc : n ≤ c) (h1 : -1 ≤ nb) (h2 : nb < (n : Int)) (HR : Hid (VRow w a n vs)) (HAl : Hid (∀ w : World, Calls Try.prog 23 #[] w fun e w' => e = .returned (.bool true) ∧ Below w.heap.size w w')) (HF : Hid (∀ W : World, VRow W a n vs → Calls Try.prog 22 #[.slice a n c] W fun e W' => e = .returned (.tuple #[.int .i64 nb, .int .i64 0]) ∧ Below W.heap.size W W')) (HQ : Hid (∀ k : Nat, k < n → ∃ c1 c2 c3 c4 c5 c6 c7 c8 E : Int, (∀ (b off : Nat) (W : World), a = some ⟨b, off, none⟩ → VRow W a n vs → Calls Try.prog 21 #[.slice (some ⟨b, off, none⟩) ((k + 1 : Nat)) c] W fun e W' => e = .returned (.tuple #[.agg #[.int .i64 c1, .int .i64 c2, .int .i64 c3, .int .i64 c4, .int .i64 c5, .int .i64 c6, .int .i64 c7, .int .i64 c8], .int .i64 E]) ∧ Below W.heap.size W W') ∧ (E == 6) = (decide (0 ≤ nb) && decide (nb ≤ (k : Int))))) :
    Calls Try.prog 11 #[.slice a n c] w fun e w' => e = .returned (.bool true) ∧ Below w.heap.size w w' := by
  have HN : Hid (n ≤ 12) := hn
  have HCc : Hid (n ≤ c) := hc
  have hn1 : decide ((12 : Int) < (n : Int)) = false := by simp; omega
  have hb1 : decide (nb < -1) = false := by simp; omega
  have hb2 : decide ((n : Int) ≤ nb) = false := by simp; omega
  clear hc hn
  go_enter Try.func11, Try.ntmps11
  go_wp2_with fail
  refine (HAl.out _).mono ?_
  rintro e w1 ⟨rfl, hb⟩
  have hB1 : Below w.heap.size w w1 := by (repeat' (first | (with_reducible exact Below.refl _ _) | (with_reducible assumption) | (with_reducible refine belowThru ?_ (by assumption)) | (with_reducible refine belowAlloc ?_) | (with_reducible refine Below.setCell ?_ (by first | omega | (simp; done) | (simp; omega)) _) | (with_reducible refine Below.drew ?_) | (with_reducible refine below_drewN ?_ _)))
  clear hb
  go_wp2_with fail
  refine (HF.out _ (HR.out.later hB1)).mono ?_
  rintro e w2 ⟨rfl, hb⟩
  have hB2 : Below w.heap.size w w2 := by (repeat' (first | (with_reducible exact Below.refl _ _) | (with_reducible assumption) | (with_reducible refine belowThru ?_ (by assumption)) | (with_reducible refine belowAlloc ?_) | (with_reducible refine Below.setCell ?_ (by first | omega | (simp; done) | (simp; omega)) _) | (with_reducible refine Below.drew ?_) | (with_reducible refine below_drewN ?_ _)))
  clear hb
  go_wp2_with fail
  go_loopw [6, 40] (fun _ i wr => ∃ k : Nat, k ≤ n ∧ i = .int .i64 k ∧ Below w.heap.size w wr) (fun _ i _ => n - (intOf i).toNat)
  case atStart => exact ⟨0, Nat.zero_le _, rfl, by (repeat' (first | (with_reducible exact Below.refl _ _) | (with_reducible assumption) | (with_reducible refine belowThru ?_ (by assumption)) | (with_reducible refine belowAlloc ?_) | (with_reducible refine Below.setCell ?_ (by first | omega | (simp; done) | (simp; omega)) _) | (with_reducible refine Below.drew ?_) | (with_reducible refine below_drewN ?_ _)))⟩
  case round =>
    obtain ⟨k, hk, rfl, hB⟩ := hrel
    have hn := HN.out; have hc := HCc.out
    by_cases hlt : k < n
    · obtain ⟨bb, oo, x0, z0, lo0, hi0, rfl, l1, g1, -⟩ := HR.out.at hlt
      obtain ⟨c1, c2, c3, c4, c5, c6, c7, c8, E, hq, hE⟩ := HQ.out k hlt
      clear g1
      have q0 : (0 : Int) ≤ (k : Int) := by omega
      have q1 : (k : Int) < (n : Int) := by omega
      have q2 : ((k : Int) + 1).toNat = k + 1 := by omega
      have q3 : IntKind.i64.wrap ((k : Int) + 1) = (k : Int) + 1 := wr64 _ (by omega)
      have q4 : ¬ (c < k + 1) := by omega
      have q5 : k + 1 ≤ c := by omega
      have q6 : (0 : Int) ≤ (k : Int) + 1 := by omega
      have q7 : ((k : Int) + 1) ≤ (c : Int) := by omega
      have HQ' := Lib.hid hq
      clear hq
      by_cases hp : 0 ≤ nb
      · have p1 : decide (0 ≤ nb) = true := decide_eq_true hp
        by_cases hkn : nb ≤ (k : Int)
        · have p2 : decide (nb ≤ (k : Int)) = true := decide_eq_true hkn
          have p3 : (E == 6) = true := by rw [hE]; simp [hp, hkn]
          clear hE hp hkn hn hc
          go_wp2_with fail
          refine (HQ'.out bb oo _ rfl (HR.out.later (by (repeat' (first | (with_reducible exact Below.refl _ _) | (with_reducible assumption) | (with_reducible refine belowThru ?_ (by assumption)) | (with_reducible refine belowAlloc ?_) | (with_reducible refine Below.setCell ?_ (by first | omega | (simp; done) | (simp; omega)) _) | (with_reducible refine Below.drew ?_) | (with_reducible refine below_drewN ?_ _)))))).mono ?_
          rintro e w9 ⟨rfl, hb⟩
          have hB' : Below w.heap.size w w9 := by (repeat' (first | (with_reducible exact Below.refl _ _) | (with_reducible assumption) | (with_reducible refine belowThru ?_ (by assumption)) | (with_reducible refine belowAlloc ?_) | (with_reducible refine Below.setCell ?_ (by first | omega | (simp; done) | (simp; omega)) _) | (with_reducible refine Below.drew ?_) | (with_reducible refine below_drewN ?_ _)))
          clear hb
          go_wp2
          go_roundw
          case rel => exact ⟨k + 1, hlt, by go_num, by (repeat' (first | (with_reducible exact Below.refl _ _) | (with_reducible assumption) | (with_reducible refine belowThru ?_ (by assumption)) | (with_reducible refine belowAlloc ?_) | (with_reducible refine Below.setCell ?_ (by first | omega | (simp; done) | (simp; omega)) _) | (with_reducible refine Below.drew ?_) | (with_reducible refine below_drewN ?_ _)))⟩
          case measure => simp [intOf]; omega
        · have p2 : decide (nb ≤ (k : Int)) = false := decide_eq_false hkn
          have p3 : (E == 6) = false := by rw [hE]; simp [hp, hkn]
          clear hE hp hkn hn hc
          go_wp2_with fail
          refine (HQ'.out bb oo _ rfl (HR.out.later (by (repeat' (first | (with_reducible exact Below.refl _ _) | (with_reducible assumption) | (with_reducible refine belowThru ?_ (by assumption)) | (with_reducible refine belowAlloc ?_) | (with_reducible refine Below.setCell ?_ (by first | omega | (simp; done) | (simp; omega)) _) | (with_reducible refine Below.drew ?_) | (with_reducible refine below_drewN ?_ _)))))).mono ?_
          rintro e w9 ⟨rfl, hb⟩
          have hB' : Below w.heap.size w w9 := by (repeat' (first | (with_reducible exact Below.refl _ _) | (with_reducible assumption) | (with_reducible refine belowThru ?_ (by assumption)) | (with_reducible refine belowAlloc ?_) | (with_reducible refine Below.setCell ?_ (by first | omega | (simp; done) | (simp; omega)) _) | (with_reducible refine Below.drew ?_) | (with_reducible refine below_drewN ?_ _)))
          clear hb
          go_wp2
          go_roundw
          case rel => exact ⟨k + 1, hlt, by go_num, by (repeat' (first | (with_reducible exact Below.refl _ _) | (with_reducible assumption) | (with_reducible refine belowThru ?_ (by assumption)) | (with_reducible refine belowAlloc ?_) | (with_reducible refine Below.setCell ?_ (by first | omega | (simp; done) | (simp; omega)) _) | (with_reducible refine Below.drew ?_) | (with_reducible refine below_drewN ?_ _)))⟩
          case measure => simp [intOf]; omega
      · have p1 : decide (0 ≤ nb) = false := decide_eq_false hp
        have p3 : (E == 6) = false := by rw [hE]; simp [hp]
        clear hE hp hn hc
        go_wp2_with fail
        refine (HQ'.out bb oo _ rfl (HR.out.later (by (repeat' (first | (with_reducible exact Below.refl _ _) | (with_reducible assumption) | (with_reducible refine belowThru ?_ (by assumption)) | (with_reducible refine belowAlloc ?_) | (with_reducible refine Below.setCell ?_ (by first | omega | (simp; done) | (simp; omega)) _) | (with_reducible refine Below.drew ?_) | (with_reducible refine below_drewN ?_ _)))))).mono ?_
        rintro e w9 ⟨rfl, hb⟩
        have hB' : Below w.heap.size w w9 := by (repeat' (first | (with_reducible exact Below.refl _ _) | (with_reducible assumption) | (with_reducible refine belowThru ?_ (by assumption)) | (with_reducible refine belowAlloc ?_) | (with_reducible refine Below.setCell ?_ (by first | omega | (simp; done) | (simp; omega)) _) | (with_reducible refine Below.drew ?_) | (with_reducible refine below_drewN ?_ _)))
        clear hb
        go_wp2
        go_roundw
        case rel => exact ⟨k + 1, hlt, by go_num, by (repeat' (first | (with_reducible exact Below.refl _ _) | (with_reducible assumption) | (with_reducible refine belowThru ?_ (by assumption)) | (with_reducible refine belowAlloc ?_) | (with_reducible refine Below.setCell ?_ (by first | omega | (simp; done) | (simp; omega)) _) | (with_reducible refine Below.drew ?_) | (with_reducible refine below_drewN ?_ _)))⟩
        case measure => simp [intOf]; omega
    · obtain rfl : k = n := by omega
      clear hn hc
      go_wp2
      go_ret
      exact ⟨rfl, by (repeat' (first | (with_reducible exact Below.refl _ _) | (with_reducible assumption) | (with_reducible refine belowThru ?_ (by assumption)) | (with_reducible refine belowAlloc ?_) | (with_reducible refine Below.setCell ?_ (by first | omega | (simp; done) | (simp; omega)) _) | (with_reducible refine Below.drew ?_) | (with_reducible refine below_drewN ?_ _)))⟩
theorem lawBad_true (a : Option Addr) (n c : Nat) (vs : List Vw) (hc : n ≤ c) (w : World) (hR : VRow w a n vs) : Calls Try.prog 11 #[.slice a n c] w fun e w' => e = .returned (.bool true) ∧ Below w.heap.size w w' := by
  have HAl := Lib.hid alive_true
  have HR := Lib.hid hR
  have hl := hR.1
  by_cases hn : n ≤ 12
  · have HF : ∀ W : World, VRow W a n vs → _ := fun W h => bad_any a n c vs hc W h
    by_cases hk : ckV vs = 0
    · obtain ⟨-, hV⟩ := ckV_ok hk
      have hv : baV vs = bdI vs := if_pos hk
      have hle := bdN_le vs
      rw [hk, hv] at HF
      have hbd : -1 ≤ bdI vs ∧ bdI vs < (n : Int) := by
        unfold bdI; split <;> omega
      refine lbad_2 a n c vs (bdI vs) w hn hc hbd.1 hbd.2 HR HAl (Lib.hid HF) (Lib.hid fun k hkn => ?_)
      obtain ⟨c1, c2, c3, c4, c5, c6, c7, c8, he⟩ := caV_eight (vs.take (k + 1))
      have hV' : ∀ v ∈ vs.take (k + 1), InV v := fun v hv => hV v (List.mem_of_mem_take hv)
      refine ⟨c1, c2, c3, c4, c5, c6, c7, c8, caE (vs.take (k + 1)), fun b off W ha h => ?_, ?_⟩
      · subst ha
        have := calib_any (some ⟨b, off, none⟩) (k + 1) c (vs.take (k + 1)) W (h.take (by omega))
        rwa [he] at this
      · rw [caE_six hV' (by rw [List.length_take]; omega)]
        unfold bdI
        by_cases hb : bdN vs = vs.length
        · rw [if_pos hb, bdN_no (by omega)]; rfl
        · rw [if_neg hb]
          by_cases hc' : k < bdN vs
          · rw [bdN_no hc', decide_eq_true (by omega), decide_eq_false (by omega)]; rfl
          · rw [bdN_yes hV (by omega) (by omega), decide_eq_true (by omega), decide_eq_true (by omega)]; rfl
    · have hv : baV vs = 0 := if_neg hk
      rw [hv] at HF
      exact lbad_1 a n c vs _ w hn (ne0 hk) HR HAl (Lib.hid HF)
  · exact lbad_0 a n c vs 0 w (by omega) HR HAl
end Go.Proofs.Ytbdcmdofmokoeaa
