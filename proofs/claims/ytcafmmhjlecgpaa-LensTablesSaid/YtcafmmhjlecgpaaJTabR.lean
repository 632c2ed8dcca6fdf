/-
  Layer 4: whether a table is valid, by the document.
-/
import Derived.Test.YtcafmmhjlecgpaaJTab
namespace Go.Proofs.Ytcafmmhjlecgpaa
open Go.RowKit
set_option linter.unusedVariables false
set_option linter.unusedSimpArgs false

theorem RInT (x : Int) (h : -4096 ≤ x ∧ x ≤ 4096) (w : World) : Calls Try.prog 68 #[.int .i64 x, .int .i64 (-4096), .int .i64 4096] w fun e w' => e = .returned (.bool true) ∧ w' = w := (rwithin_yes x (-4096) 4096 h.1 h.2 w).mono fun e w' ⟨a, b⟩ => ⟨a, b.symm⟩
theorem RInF (x : Int) (h : ¬ (-4096 ≤ x ∧ x ≤ 4096)) (w : World) : Calls Try.prog 68 #[.int .i64 x, .int .i64 (-4096), .int .i64 4096] w fun e w' => e = .returned (.bool false) ∧ w' = w := (rwithin_no x (-4096) 4096 h w).mono fun e w' ⟨a, b⟩ => ⟨a, b.symm⟩
set_option maxRecDepth 100000 in
set_option maxHeartbeats 4000000 in
theorem rknots_loop (a : Option Addr) (n c : Nat) (ks : List (Int × Int)) (hn2 : 2 ≤ n) (hn16 : n ≤ 16) (w : World) (hR : KRow w a n ks) :
    Calls Try.prog 52 #[.slice a n c] w fun e w' => (okT ks ∧ e = .returned (.bool true) ∨ ¬ okT ks ∧ e = .returned (.bool false)) ∧ Below w.heap.size w w' := by
  have hx : ks.length = n := hR.1
  have HX := Lib.hid hx; have HR := Lib.hid hR
  clear hx hR
  have p0 : (2 : Int) ≤ (n : Int) := by omega
  have p1 : (n : Int) ≤ 16 := by omega
  go_enter Try.func52, Try.ntmps52
  go_wp2
  go_loopw [3] (fun i wr => ∃ k : Nat, k ≤ n ∧ i = .int .i64 k ∧ Hid (UpT ks k) ∧ Below w.heap.size w wr) (fun i _ => n - (intOf i).toNat)
  case atStart => exact ⟨0, Nat.zero_le _, rfl, (UpT.zero ks : UpT ks 0), by (repeat' (first | (with_reducible exact Below.refl _ _) | (with_reducible assumption) | (with_reducible refine belowThru ?_ (by assumption)) | (with_reducible refine belowAlloc ?_) | (with_reducible refine Below.setCell ?_ (by first | omega | (simp; done) | (simp; omega)) _) | (with_reducible refine Below.drew ?_) | (with_reducible refine below_drewN ?_ _)))⟩
  case round =>
    obtain ⟨k, hk, rfl, ht, hB⟩ := hrel
    by_cases hlt : k < n
    · obtain ⟨bb, oo, x, y, rfl, l1, h1, c1, d1⟩ := HR.out.at hlt
      have c1 := cell_later hB c1
      have d1 := cell_later hB d1
      have q0 : (0 : Int) ≤ (k : Int) := by omega
      have q1 : (k : Int) < (n : Int) := by omega
      by_cases hin : InT (x, y)
      · have HIx := Lib.hid (RInT x hin.1); have HIy := Lib.hid (RInT y hin.2)
        rcases Nat.eq_zero_or_pos k with rfl | hk0
        · have ht' : Hid (UpT ks (0 + 1)) := UpT.first h1 hin
          have c1 : wr.cell? ⟨bb, oo, none⟩ = some (.int .i64 x) := by simpa using c1
          have d1 : wr.cell? ⟨bb, oo + 1, none⟩ = some (.int .i64 y) := by simpa using d1
          clear h1 hin
          go_wp2_with fail
          go_quiet ((first | (go_at_call 68; with_reducible exact Calls.quiet_of_same (HIx.out _)) | (go_at_call 68; with_reducible exact Calls.quiet_of_same (HIy.out _))))
          go_wp2
          go_roundw
          case rel => exact ⟨0 + 1, hlt, by go_num, ht', by (repeat' (first | (with_reducible exact Below.refl _ _) | (with_reducible assumption) | (with_reducible refine belowThru ?_ (by assumption)) | (with_reducible refine belowAlloc ?_) | (with_reducible refine Below.setCell ?_ (by first | omega | (simp; done) | (simp; omega)) _) | (with_reducible refine Below.drew ?_) | (with_reducible refine below_drewN ?_ _)))⟩
          case measure => simp [intOf]; omega
        · obtain ⟨j, rfl⟩ : ∃ j, k = j + 1 := ⟨k - 1, by omega⟩
          obtain ⟨b2, o2, x', y', e2, l2, h2, c2, d2⟩ := HR.out.at (show j < n by omega)
          have e3 : bb = b2 ∧ oo = o2 := by simpa using e2
          obtain ⟨rfl, rfl⟩ := e3
          have c2 := cell_later hB c2
          have d2 := cell_later hB d2
          have q2 : (0 : Int) ≤ (j : Int) := by omega
          have q3 : (j : Int) < (n : Int) := by omega
          clear e2
          by_cases hx1 : x' < x
          · by_cases hy1 : y' < y
            · have ht' : Hid (UpT ks (j + 1 + 1)) := UpT.succ ht.out h2 h1 hin ⟨hx1, hy1⟩
              have hx3 : decide (x ≤ x') = false := by simp; omega
              have hy3 : decide (y ≤ y') = false := by simp; omega
              clear h1 h2 hin
              go_wp2_with fail
              have hwj : IntKind.i64.wrap (j : Int) = (j : Int) := IntWalk.i64_in _ (by omega)
              go_quiet ((first | (go_at_call 68; with_reducible exact Calls.quiet_of_same (HIx.out _)) | (go_at_call 68; with_reducible exact Calls.quiet_of_same (HIy.out _))))
              clear hwj
              go_wp2
              go_roundw
              case rel => exact ⟨j + 1 + 1, hlt, by go_num, ht', by (repeat' (first | (with_reducible exact Below.refl _ _) | (with_reducible assumption) | (with_reducible refine belowThru ?_ (by assumption)) | (with_reducible refine belowAlloc ?_) | (with_reducible refine Below.setCell ?_ (by first | omega | (simp; done) | (simp; omega)) _) | (with_reducible refine Below.drew ?_) | (with_reducible refine below_drewN ?_ _)))⟩
              case measure => simp [intOf]; omega
            · have hno := Lib.hid (okT.not_lt h2 h1 (fun h => hy1 h.2))
              have hy2 : decide (y ≤ y') = true := by simp; omega
              have hx3 : decide (x ≤ x') = false := by simp; omega
              clear h1 h2 hin
              go_wp2_with fail
              have hwj : IntKind.i64.wrap (j : Int) = (j : Int) := IntWalk.i64_in _ (by omega)
              go_quiet ((first | (go_at_call 68; with_reducible exact Calls.quiet_of_same (HIx.out _)) | (go_at_call 68; with_reducible exact Calls.quiet_of_same (HIy.out _))))
              clear hwj
              go_wp2
              go_ret
              exact ⟨.inr ⟨hno.out, rfl⟩, by (repeat' (first | (with_reducible exact Below.refl _ _) | (with_reducible assumption) | (with_reducible refine belowThru ?_ (by assumption)) | (with_reducible refine belowAlloc ?_) | (with_reducible refine Below.setCell ?_ (by first | omega | (simp; done) | (simp; omega)) _) | (with_reducible refine Below.drew ?_) | (with_reducible refine below_drewN ?_ _)))⟩
          · have hno := Lib.hid (okT.not_lt h2 h1 (fun h => hx1 h.1))
            have hx2 : decide (x ≤ x') = true := by simp; omega
            clear h1 h2 hin
            go_wp2_with fail
            have hwj : IntKind.i64.wrap (j : Int) = (j : Int) := IntWalk.i64_in _ (by omega)
            go_quiet ((first | (go_at_call 68; with_reducible exact Calls.quiet_of_same (HIx.out _)) | (go_at_call 68; with_reducible exact Calls.quiet_of_same (HIy.out _))))
            clear hwj
            go_wp2
            go_ret
            exact ⟨.inr ⟨hno.out, rfl⟩, by (repeat' (first | (with_reducible exact Below.refl _ _) | (with_reducible assumption) | (with_reducible refine belowThru ?_ (by assumption)) | (with_reducible refine belowAlloc ?_) | (with_reducible refine Below.setCell ?_ (by first | omega | (simp; done) | (simp; omega)) _) | (with_reducible refine Below.drew ?_) | (with_reducible refine below_drewN ?_ _)))⟩
      · have hno := Lib.hid (okT.not_in h1 hin)
        obtain ⟨cc1, dd1⟩ : wr.cell? ⟨bb, oo + k * 2, none⟩ = some (.int .i64 x) ∧ wr.cell? ⟨bb, oo + k * 2 + 1, none⟩ = some (.int .i64 y) := ⟨c1, d1⟩
        by_cases hi1 : -4096 ≤ x ∧ x ≤ 4096
        · have HIx := Lib.hid (RInT x hi1)
          have HIy := Lib.hid (RInF y (fun h => hin ⟨hi1, h⟩))
          clear h1 hin hi1
          go_wp2_with fail
          go_quiet ((first | (go_at_call 68; with_reducible exact Calls.quiet_of_same (HIx.out _)) | (go_at_call 68; with_reducible exact Calls.quiet_of_same (HIy.out _))))
          go_wp2
          go_ret
          exact ⟨.inr ⟨hno.out, rfl⟩, by (repeat' (first | (with_reducible exact Below.refl _ _) | (with_reducible assumption) | (with_reducible refine belowThru ?_ (by assumption)) | (with_reducible refine belowAlloc ?_) | (with_reducible refine Below.setCell ?_ (by first | omega | (simp; done) | (simp; omega)) _) | (with_reducible refine Below.drew ?_) | (with_reducible refine below_drewN ?_ _)))⟩
        · have HIx := Lib.hid (RInF x hi1)
          clear h1 hin hi1
          go_wp2_with fail
          go_quiet ((go_at_call 68; with_reducible exact Calls.quiet_of_same (HIx.out _)))
          go_wp2
          go_ret
          exact ⟨.inr ⟨hno.out, rfl⟩, by (repeat' (first | (with_reducible exact Below.refl _ _) | (with_reducible assumption) | (with_reducible refine belowThru ?_ (by assumption)) | (with_reducible refine belowAlloc ?_) | (with_reducible refine Below.setCell ?_ (by first | omega | (simp; done) | (simp; omega)) _) | (with_reducible refine Below.drew ?_) | (with_reducible refine below_drewN ?_ _)))⟩
    · obtain rfl : k = n := by omega
      have hyes : Hid (okT ks) := by
        have h := ht.out
        rw [← HX.out] at h
        exact ⟨⟨by rw [HX.out]; exact hn2, by rw [HX.out]; exact hn16⟩, h⟩
      go_wp2
      go_ret
      exact ⟨.inl ⟨hyes.out, rfl⟩, by (repeat' (first | (with_reducible exact Below.refl _ _) | (with_reducible assumption) | (with_reducible refine belowThru ?_ (by assumption)) | (with_reducible refine belowAlloc ?_) | (with_reducible refine Below.setCell ?_ (by first | omega | (simp; done) | (simp; omega)) _) | (with_reducible refine Below.drew ?_) | (with_reducible refine below_drewN ?_ _)))⟩
set_option maxHeartbeats 1000000 in
theorem rknots_no (a : Option Addr) (n c : Nat) (hn : n ≤ maxLen) (h : ¬ (2 ≤ n ∧ n ≤ 16)) (w : World) :
    Calls Try.prog 52 #[.slice a n c] w fun e w' => e = .returned (.bool false) ∧ Below w.heap.size w w' := by
  unfold maxLen at hn
  by_cases h2 : n < 2
  · have p0 : (n : Int) < 2 := by omega
    clear h h2
    go_enter Try.func52, Try.ntmps52
    go_wp2
    go_ret
    exact ⟨rfl, by (repeat' (first | (with_reducible exact Below.refl _ _) | (with_reducible assumption) | (with_reducible refine belowThru ?_ (by assumption)) | (with_reducible refine belowAlloc ?_) | (with_reducible refine Below.setCell ?_ (by first | omega | (simp; done) | (simp; omega)) _) | (with_reducible refine Below.drew ?_) | (with_reducible refine below_drewN ?_ _)))⟩
  · have p0 : decide ((n : Int) < 2) = false := by simp; omega
    have p1 : (16 : Int) < (n : Int) := by omega
    clear h h2
    go_enter Try.func52, Try.ntmps52
    go_wp2
    go_ret
    exact ⟨rfl, by (repeat' (first | (with_reducible exact Below.refl _ _) | (with_reducible assumption) | (with_reducible refine belowThru ?_ (by assumption)) | (with_reducible refine belowAlloc ?_) | (with_reducible refine Below.setCell ?_ (by first | omega | (simp; done) | (simp; omega)) _) | (with_reducible refine Below.drew ?_) | (with_reducible refine below_drewN ?_ _)))⟩
theorem validKnots_yes {a : Option Addr} {n c : Nat} {ks : List (Int × Int)} (h : okT ks) (w : World) (hR : KRow w a n ks) :
    Calls Try.prog 52 #[.slice a n c] w fun e w' => e = .returned (.bool true) ∧ Below w.heap.size w w' := by
  have hl := h.1
  rw [hR.1] at hl
  refine (rknots_loop a n c ks hl.1 hl.2 w hR).mono ?_
  rintro e w' ⟨⟨-, he⟩ | ⟨hn, -⟩, hb⟩
  · exact ⟨he, hb⟩
  · exact absurd h hn
theorem validKnots_no {a : Option Addr} {n c : Nat} {ks : List (Int × Int)} (hn : n ≤ maxLen) (h : ¬ okT ks) (w : World) (hR : KRow w a n ks) :
    Calls Try.prog 52 #[.slice a n c] w fun e w' => e = .returned (.bool false) ∧ Below w.heap.size w w' := by
  by_cases hl : 2 ≤ n ∧ n ≤ 16
  · refine (rknots_loop a n c ks hl.1 hl.2 w hR).mono ?_
    rintro e w' ⟨⟨hy, -⟩ | ⟨-, he⟩, hb⟩
    · exact absurd hy h
    · exact ⟨he, hb⟩
  · exact rknots_no a n c hn hl w
end Go.Proofs.Ytcafmmhjlecgpaa
