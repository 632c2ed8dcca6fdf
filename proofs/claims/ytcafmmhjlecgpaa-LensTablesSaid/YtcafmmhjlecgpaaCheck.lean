/-
  Layer 1: lists of two fractions are checked.
-/
import Derived.Test.YtcafmmhjlecgpaaFracs
namespace Go.Proofs.Ytcafmmhjlecgpaa
open Go.RowKit

/-- 0, or the error that one of two fractions is not valid. -/
def ck2 (a b c d : Int) : Int := if okF a b then ck c d else 8
theorem ck_ok {a b : Int} (h : okF a b) : ck a b = 0 := if_pos h
theorem ck_no {a b : Int} (h : ¬ okF a b) : ck a b = 8 := if_neg h

/-- How far the list has been checked. -/
def Far (a b c d : Int) (i : Value) : Prop := i = .int .i64 0 ∨ (i = .int .i64 1 ∧ okF a b) ∨ (i = .int .i64 2 ∧ okF a b ∧ okF c d)

set_option maxHeartbeats 2000000 in
theorem checkAll_two (a b c d : Int) (B : Nat) (w : World) (h0 : w.cell? ⟨B, 0, none⟩ = some (.int .i64 a)) (h1 : w.cell? ⟨B, 1, none⟩ = some (.int .i64 b)) (h2 : w.cell? ⟨B, 2, none⟩ = some (.int .i64 c)) (h3 : w.cell? ⟨B, 3, none⟩ = some (.int .i64 d)) :
    Calls Try.prog 73 #[.slice (some ⟨B, 0, none⟩) 2 2] w fun e w' => e = .returned (.int .i64 (ck2 a b c d)) ∧ Below w.heap.size w w' := by
  have HB : B < w.heap.size := World.block_lt_of_cell? w ⟨B, 0, none⟩ h0
  go_enter Try.func73, Try.ntmps73
  go_wp2
  go_loopw [8] (fun i wr => Far a b c d i ∧ Below w.heap.size w wr) (fun i _ => (2 - intOf i).toNat)
  case atStart => exact ⟨Or.inl rfl, Below.refl _ _⟩
  case round =>
    obtain ⟨hi, hb0⟩ := hrel
    have g0 := cell_later (hb0.mono (Nat.le_refl _)) h0
    have g1 := cell_later (hb0.mono (Nat.le_refl _)) h1
    have g2 := cell_later (hb0.mono (Nat.le_refl _)) h2
    have g3 := cell_later (hb0.mono (Nat.le_refl _)) h3
    have hz := hb0.size
    clear h0 h1 h2 h3
    rcases hi with rfl | ⟨rfl, ha⟩ | ⟨rfl, ha, hc⟩
    · by_cases ha : okF a b
      · have hd : (ck a b != 0) = false := by rw [ck_ok ha]; rfl
        go_wp2_with (go_at_call 76; (with_reducible refine (check_any a b _).mono ?_); rintro e w1 ⟨rfl, hb⟩)
        go_roundw
        case rel => exact ⟨Or.inr (Or.inl ⟨rfl, ha⟩), by (repeat' (first | (with_reducible exact Below.refl _ _) | (with_reducible assumption) | (with_reducible refine belowThru ?_ (by assumption)) | (with_reducible refine belowAlloc ?_) | (with_reducible refine Below.setCell ?_ (by first | omega | (simp; done) | (simp; omega)) _) | (with_reducible refine Below.drew ?_) | (with_reducible refine below_drewN ?_ _)))⟩
        case measure => simp [intOf]
      · have hd : (ck a b != 0) = true := by rw [ck_no ha]; rfl
        have he : Hid (ck a b = ck2 a b c d) := by show _ = _; rw [ck_no ha]; exact (if_neg ha).symm
        go_wp2_with (go_at_call 76; (with_reducible refine (check_any a b _).mono ?_); rintro e w1 ⟨rfl, hb⟩)
        go_ret
        rw [← he.out]
        exact ⟨rfl, by (repeat' (first | (with_reducible exact Below.refl _ _) | (with_reducible assumption) | (with_reducible refine belowThru ?_ (by assumption)) | (with_reducible refine belowAlloc ?_) | (with_reducible refine Below.setCell ?_ (by first | omega | (simp; done) | (simp; omega)) _) | (with_reducible refine Below.drew ?_) | (with_reducible refine below_drewN ?_ _)))⟩
    · by_cases hc : okF c d
      · have hd : (ck c d != 0) = false := by rw [ck_ok hc]; rfl
        go_wp2_with (go_at_call 76; (with_reducible refine (check_any c d _).mono ?_); rintro e w1 ⟨rfl, hb⟩)
        go_roundw
        case rel => exact ⟨Or.inr (Or.inr ⟨rfl, ha, hc⟩), by (repeat' (first | (with_reducible exact Below.refl _ _) | (with_reducible assumption) | (with_reducible refine belowThru ?_ (by assumption)) | (with_reducible refine belowAlloc ?_) | (with_reducible refine Below.setCell ?_ (by first | omega | (simp; done) | (simp; omega)) _) | (with_reducible refine Below.drew ?_) | (with_reducible refine below_drewN ?_ _)))⟩
        case measure => simp [intOf]
      · have hd : (ck c d != 0) = true := by rw [ck_no hc]; rfl
        have he : Hid (ck c d = ck2 a b c d) := by show _ = _; exact (if_pos ha).symm
        go_wp2_with (go_at_call 76; (with_reducible refine (check_any c d _).mono ?_); rintro e w1 ⟨rfl, hb⟩)
        go_ret
        rw [← he.out]
        exact ⟨rfl, by (repeat' (first | (with_reducible exact Below.refl _ _) | (with_reducible assumption) | (with_reducible refine belowThru ?_ (by assumption)) | (with_reducible refine belowAlloc ?_) | (with_reducible refine Below.setCell ?_ (by first | omega | (simp; done) | (simp; omega)) _) | (with_reducible refine Below.drew ?_) | (with_reducible refine below_drewN ?_ _)))⟩
    · have he : Hid (0 = ck2 a b c d) := by show _ = _; exact ((if_pos ha).trans (ck_ok hc)).symm
      go_wp2
      go_ret
      rw [← he.out]
      exact ⟨rfl, hb0⟩
end Go.Proofs.Ytcafmmhjlecgpaa
