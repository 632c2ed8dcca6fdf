/-
  The texts that the laws of this seat share, merged: part 8.
-/
import Derived.BigQuiet
import Derived.Deep.CutBlock
import Derived.Deep.CutRange
import Derived.Deep.DeepCutAuto
import Derived.Deep.Draws
import Derived.Deep.LoopGhost
import Derived.Deep.QuietTactic
import Derived.Deep.RegionHeld3
import Derived.Deep.RegionLaw
import Derived.IntWalk
import Derived.Laws.AppendOwn
import Derived.Laws.Bits64b
import Derived.Laws.BitsAll
import Derived.Laws.BitsAllLaws
import Derived.Lib.Hide
import Derived.Lib.ItoaNum
import Derived.LoopIn
import Derived.LoopNIn
import Derived.LoopTactic
import Derived.OneCell
import Derived.Orders
import Derived.OwnWalkIn
import Derived.RangeFuncBound
import Derived.RangeFuncCalls
import Derived.RangeFuncLeaves
import Derived.RangeFuncNested
import Derived.Shelf.Abstract
import Derived.Shelf.AbstractIn
import Derived.Shelf.Bits.Mul64
import Derived.Shelf.RegionOpen
import Derived.Shelf.Small.Bits
import Derived.Shelf.Spec.BitsCarry
import Derived.Shelf.Strconv.Itoa0
import Derived.StillTailTactics
import Derived.TacticsInMore
import Derived.Test.YtbdcmdofmokoeaaProg
import Derived.WalkKit
import Derived.WalkLawsBesides
import Derived.WalkSmall
import Derived.WalkSpells
import Derived.Test.YtbdcmdofmokoeaaR1
import Derived.Test.YtbdcmdofmokoeaaR2
import Derived.Test.YtbdcmdofmokoeaaR4
import Derived.Test.YtbdcmdofmokoeaaR6
import Derived.Test.YtbdcmdofmokoeaaR7
/-
  Layer 4: lights, ideal values, radiances, by the code.
-/
namespace Go.Proofs.Ytbdcmdofmokoeaa
open Go.RowKit Go.Shelf
set_option linter.unusedVariables false
set_option linter.unusedSimpArgs false

theorem holdL2 {w : World} {b0 b1 : Nat} {c0 c1 : Array Value} {t0 t1 : TypeId} {D0 D1 E G : Prop} (h : (Blk w b0 c0 t0 ∧ D0) ∧ (Blk w b1 c1 t1 ∧ D1) ∧ E) (g : Blk w b0 c0 t0 → Blk w b1 c1 t1 → E → G) : G := g h.1.1 h.2.1.1 h.2.2
def okL (E D N : Int) : Prop := (1 ≤ E ∧ E ≤ 256) ∧ (0 ≤ D ∧ D ≤ 63) ∧ 0 ≤ N ∧ N ≤ 64
instance (E D N : Int) : Decidable (okL E D N) := inferInstanceAs (Decidable (_ ∧ _))
/-- The ideal value. -/
def idl (E D r : Int) : Int := min 255 (D + E * r / 256)
def vaE (E D N r : Int) : Int := if ¬ okL E D N then 41 else if ¬ (0 ≤ r ∧ r ≤ 4095) then 2 else 0
def vaV (E D N r : Int) : Int := if vaE E D N r = 0 then idl E D r else 0
theorem idl_bd {E D r : Int} (hE : 1 ≤ E ∧ E ≤ 256) (hr : 0 ≤ r ∧ r ≤ 4095) : 0 ≤ E * r ∧ E * r ≤ 1048320 := by
  have h1 := Int.mul_nonneg (show 0 ≤ E by omega) hr.1
  have h2 := mul_bound E r 256 4095 (by omega) (by omega) (by omega) (by omega)
  omega
theorem idl_mono {E D r s : Int} (hE : 1 ≤ E) (h : r ≤ s) : idl E D r ≤ idl E D s := by
  have h1 := Int.mul_le_mul_of_nonneg_left h (show (0 : Int) ≤ E by omega)
  have h2 : E * r / 256 ≤ E * s / 256 := Int.ediv_le_ediv (by omega) h1
  unfold idl
  omega
set_option maxRecDepth 100000 in
set_option maxHeartbeats 16000000 in
theorem light_0 (E D N : Int) (w : World) (H0 : Hid (∀ (B : Nat) (w : World), w.cell? ⟨B, 0, none⟩ = some (.int .i64 E) → Calls Try.prog 54 #[.int .i64 (1), .int .i64 256, .slice (some ⟨B, 0, none⟩) 1 1] w fun e w' => e = .returned (.bool false) ∧ Below w.heap.size w w')) :
    Calls Try.prog 29 #[.agg #[.int .i64 E, .int .i64 D, .int .i64 N]] w fun e w' => e = .returned (.int .i64 41) ∧ Below w.heap.size w w' := by
  go_enter Try.func29, Try.ntmps29
  go_wp2_with fail
  refine (H0.out _ _ (by simp [go_sem])).mono ?_
  rintro e w1 ⟨rfl, hb⟩
  have kn0 : Blk w1 (w.heap.size) #[.int .i64 E, .int .i64 D, .int .i64 N] 33 := Blk.later hb (by (repeat' (first | (with_reducible assumption) | (with_reducible refine Blk.set2 ?_) | ((with_reducible refine Blk.new ?_); first | rfl | (simp; done)) | (with_reducible refine Blk.later (by assumption) ?_) | (with_reducible refine Blk.alloc ?_) | (with_reducible refine Blk.drewN ?_) | (with_reducible refine Blk.drew ?_) | (with_reducible refine Blk.other ?_ (by first | omega | (simp; done) | (simp; omega))))))
  have k0 := kn0; clear kn0; obtain ⟨a0, b0⟩ := k0.read; have y0 := k0.lt
  have hBw : Below w.heap.size w w1 := by (repeat' (first | (with_reducible exact Below.refl _ _) | (with_reducible assumption) | (with_reducible refine belowThru ?_ (by assumption)) | (with_reducible refine belowAlloc ?_) | (with_reducible refine Below.setCell ?_ (by first | omega | (simp; done) | (simp; omega)) _) | (with_reducible refine Below.drew ?_) | (with_reducible refine below_drewN ?_ _)))
  have hzw1 := hBw.size
  clear hb
  go_wp2_with fail
  go_ret
  exact ⟨rfl, by (repeat' (first | (with_reducible exact Below.refl _ _) | (with_reducible assumption) | (with_reducible refine belowThru ?_ (by assumption)) | (with_reducible refine belowAlloc ?_) | (with_reducible refine Below.setCell ?_ (by first | omega | (simp; done) | (simp; omega)) _) | (with_reducible refine Below.drew ?_) | (with_reducible refine below_drewN ?_ _)))⟩
set_option maxRecDepth 100000 in
set_option maxHeartbeats 16000000 in
theorem light_1 (E D N : Int) (w : World) (H0 : Hid (∀ (B : Nat) (w : World), w.cell? ⟨B, 0, none⟩ = some (.int .i64 E) → Calls Try.prog 54 #[.int .i64 (1), .int .i64 256, .slice (some ⟨B, 0, none⟩) 1 1] w fun e w' => e = .returned (.bool true) ∧ Below w.heap.size w w')) (H1 : Hid (∀ (B : Nat) (w : World), w.cell? ⟨B, 0, none⟩ = some (.int .i64 D) → Calls Try.prog 54 #[.int .i64 (0), .int .i64 63, .slice (some ⟨B, 0, none⟩) 1 1] w fun e w' => e = .returned (.bool false) ∧ Below w.heap.size w w')) :
    Calls Try.prog 29 #[.agg #[.int .i64 E, .int .i64 D, .int .i64 N]] w fun e w' => e = .returned (.int .i64 41) ∧ Below w.heap.size w w' := by
  go_enter Try.func29, Try.ntmps29
  go_wp2_with fail
  refine (H0.out _ _ (by simp [go_sem])).mono ?_
  rintro e w1 ⟨rfl, hb⟩
  have kn0 : Blk w1 (w.heap.size) #[.int .i64 E, .int .i64 D, .int .i64 N] 33 := Blk.later hb (by (repeat' (first | (with_reducible assumption) | (with_reducible refine Blk.set2 ?_) | ((with_reducible refine Blk.new ?_); first | rfl | (simp; done)) | (with_reducible refine Blk.later (by assumption) ?_) | (with_reducible refine Blk.alloc ?_) | (with_reducible refine Blk.drewN ?_) | (with_reducible refine Blk.drew ?_) | (with_reducible refine Blk.other ?_ (by first | omega | (simp; done) | (simp; omega))))))
  have k0 := kn0; clear kn0; obtain ⟨a0, b0⟩ := k0.read; have y0 := k0.lt
  have hBw : Below w.heap.size w w1 := by (repeat' (first | (with_reducible exact Below.refl _ _) | (with_reducible assumption) | (with_reducible refine belowThru ?_ (by assumption)) | (with_reducible refine belowAlloc ?_) | (with_reducible refine Below.setCell ?_ (by first | omega | (simp; done) | (simp; omega)) _) | (with_reducible refine Below.drew ?_) | (with_reducible refine below_drewN ?_ _)))
  have hzw1 := hBw.size
  clear hb
  go_wp2_with fail
  refine (H1.out _ _ (by simp [go_sem])).mono ?_
  rintro e w2 ⟨rfl, hb⟩
  have kn0 : Blk w2 (w.heap.size) #[.int .i64 E, .int .i64 D, .int .i64 N] 33 := Blk.later hb (by (repeat' (first | (with_reducible assumption) | (with_reducible refine Blk.set2 ?_) | ((with_reducible refine Blk.new ?_); first | rfl | (simp; done)) | (with_reducible refine Blk.later (by assumption) ?_) | (with_reducible refine Blk.alloc ?_) | (with_reducible refine Blk.drewN ?_) | (with_reducible refine Blk.drew ?_) | (with_reducible refine Blk.other ?_ (by first | omega | (simp; done) | (simp; omega))))))
  clear k0 a0 b0 y0
  have k0 := kn0; clear kn0; obtain ⟨a0, b0⟩ := k0.read; have y0 := k0.lt
  replace hBw : Below w.heap.size w w2 := belowThru (by (repeat' (first | (with_reducible exact Below.refl _ _) | (with_reducible assumption) | (with_reducible refine belowThru ?_ (by assumption)) | (with_reducible refine belowAlloc ?_) | (with_reducible refine Below.setCell ?_ (by first | omega | (simp; done) | (simp; omega)) _) | (with_reducible refine Below.drew ?_) | (with_reducible refine below_drewN ?_ _)))) hb
  have hzw2 := hBw.size
  clear hb
  go_wp2_with fail
  go_ret
  exact ⟨rfl, by (repeat' (first | (with_reducible exact Below.refl _ _) | (with_reducible assumption) | (with_reducible refine belowThru ?_ (by assumption)) | (with_reducible refine belowAlloc ?_) | (with_reducible refine Below.setCell ?_ (by first | omega | (simp; done) | (simp; omega)) _) | (with_reducible refine Below.drew ?_) | (with_reducible refine below_drewN ?_ _)))⟩
set_option maxRecDepth 100000 in
set_option maxHeartbeats 16000000 in
theorem light_2 (E D N : Int) (w : World) (H0 : Hid (∀ (B : Nat) (w : World), w.cell? ⟨B, 0, none⟩ = some (.int .i64 E) → Calls Try.prog 54 #[.int .i64 (1), .int .i64 256, .slice (some ⟨B, 0, none⟩) 1 1] w fun e w' => e = .returned (.bool true) ∧ Below w.heap.size w w')) (H1 : Hid (∀ (B : Nat) (w : World), w.cell? ⟨B, 0, none⟩ = some (.int .i64 D) → Calls Try.prog 54 #[.int .i64 (0), .int .i64 63, .slice (some ⟨B, 0, none⟩) 1 1] w fun e w' => e = .returned (.bool true) ∧ Below w.heap.size w w')) (H2 : Hid (∀ (B : Nat) (w : World), w.cell? ⟨B, 0, none⟩ = some (.int .i64 N) → Calls Try.prog 54 #[.int .i64 (0), .int .i64 64, .slice (some ⟨B, 0, none⟩) 1 1] w fun e w' => e = .returned (.bool false) ∧ Below w.heap.size w w')) :
    Calls Try.prog 29 #[.agg #[.int .i64 E, .int .i64 D, .int .i64 N]] w fun e w' => e = .returned (.int .i64 41) ∧ Below w.heap.size w w' := by
  go_enter Try.func29, Try.ntmps29
  go_wp2_with fail
  refine (H0.out _ _ (by simp [go_sem])).mono ?_
  rintro e w1 ⟨rfl, hb⟩
  have kn0 : Blk w1 (w.heap.size) #[.int .i64 E, .int .i64 D, .int .i64 N] 33 := Blk.later hb (by (repeat' (first | (with_reducible assumption) | (with_reducible refine Blk.set2 ?_) | ((with_reducible refine Blk.new ?_); first | rfl | (simp; done)) | (with_reducible refine Blk.later (by assumption) ?_) | (with_reducible refine Blk.alloc ?_) | (with_reducible refine Blk.drewN ?_) | (with_reducible refine Blk.drew ?_) | (with_reducible refine Blk.other ?_ (by first | omega | (simp; done) | (simp; omega))))))
  have k0 := kn0; clear kn0; obtain ⟨a0, b0⟩ := k0.read; have y0 := k0.lt
  have hBw : Below w.heap.size w w1 := by (repeat' (first | (with_reducible exact Below.refl _ _) | (with_reducible assumption) | (with_reducible refine belowThru ?_ (by assumption)) | (with_reducible refine belowAlloc ?_) | (with_reducible refine Below.setCell ?_ (by first | omega | (simp; done) | (simp; omega)) _) | (with_reducible refine Below.drew ?_) | (with_reducible refine below_drewN ?_ _)))
  have hzw1 := hBw.size
  clear hb
  go_wp2_with fail
  refine (H1.out _ _ (by simp [go_sem])).mono ?_
  rintro e w2 ⟨rfl, hb⟩
  have kn0 : Blk w2 (w.heap.size) #[.int .i64 E, .int .i64 D, .int .i64 N] 33 := Blk.later hb (by (repeat' (first | (with_reducible assumption) | (with_reducible refine Blk.set2 ?_) | ((with_reducible refine Blk.new ?_); first | rfl | (simp; done)) | (with_reducible refine Blk.later (by assumption) ?_) | (with_reducible refine Blk.alloc ?_) | (with_reducible refine Blk.drewN ?_) | (with_reducible refine Blk.drew ?_) | (with_reducible refine Blk.other ?_ (by first | omega | (simp; done) | (simp; omega))))))
  clear k0 a0 b0 y0
  have k0 := kn0; clear kn0; obtain ⟨a0, b0⟩ := k0.read; have y0 := k0.lt
  replace hBw : Below w.heap.size w w2 := belowThru (by (repeat' (first | (with_reducible exact Below.refl _ _) | (with_reducible assumption) | (with_reducible refine belowThru ?_ (by assumption)) | (with_reducible refine belowAlloc ?_) | (with_reducible refine Below.setCell ?_ (by first | omega | (simp; done) | (simp; omega)) _) | (with_reducible refine Below.drew ?_) | (with_reducible refine below_drewN ?_ _)))) hb
  have hzw2 := hBw.size
  clear hb
  go_wp2_with fail
  refine (H2.out _ _ (by simp [go_sem])).mono ?_
  rintro e w3 ⟨rfl, hb⟩
  have kn0 : Blk w3 (w.heap.size) #[.int .i64 E, .int .i64 D, .int .i64 N] 33 := Blk.later hb (by (repeat' (first | (with_reducible assumption) | (with_reducible refine Blk.set2 ?_) | ((with_reducible refine Blk.new ?_); first | rfl | (simp; done)) | (with_reducible refine Blk.later (by assumption) ?_) | (with_reducible refine Blk.alloc ?_) | (with_reducible refine Blk.drewN ?_) | (with_reducible refine Blk.drew ?_) | (with_reducible refine Blk.other ?_ (by first | omega | (simp; done) | (simp; omega))))))
  clear k0 a0 b0 y0
  have k0 := kn0; clear kn0; obtain ⟨a0, b0⟩ := k0.read; have y0 := k0.lt
  replace hBw : Below w.heap.size w w3 := belowThru (by (repeat' (first | (with_reducible exact Below.refl _ _) | (with_reducible assumption) | (with_reducible refine belowThru ?_ (by assumption)) | (with_reducible refine belowAlloc ?_) | (with_reducible refine Below.setCell ?_ (by first | omega | (simp; done) | (simp; omega)) _) | (with_reducible refine Below.drew ?_) | (with_reducible refine below_drewN ?_ _)))) hb
  have hzw3 := hBw.size
  clear hb
  go_wp2_with fail
  go_ret
  exact ⟨rfl, by (repeat' (first | (with_reducible exact Below.refl _ _) | (with_reducible assumption) | (with_reducible refine belowThru ?_ (by assumption)) | (with_reducible refine belowAlloc ?_) | (with_reducible refine Below.setCell ?_ (by first | omega | (simp; done) | (simp; omega)) _) | (with_reducible refine Below.drew ?_) | (with_reducible refine below_drewN ?_ _)))⟩
set_option maxRecDepth 100000 in
set_option maxHeartbeats 16000000 in
theorem light_3 (E D N : Int) (w : World) (H0 : Hid (∀ (B : Nat) (w : World), w.cell? ⟨B, 0, none⟩ = some (.int .i64 E) → Calls Try.prog 54 #[.int .i64 (1), .int .i64 256, .slice (some ⟨B, 0, none⟩) 1 1] w fun e w' => e = .returned (.bool true) ∧ Below w.heap.size w w')) (H1 : Hid (∀ (B : Nat) (w : World), w.cell? ⟨B, 0, none⟩ = some (.int .i64 D) → Calls Try.prog 54 #[.int .i64 (0), .int .i64 63, .slice (some ⟨B, 0, none⟩) 1 1] w fun e w' => e = .returned (.bool true) ∧ Below w.heap.size w w')) (H2 : Hid (∀ (B : Nat) (w : World), w.cell? ⟨B, 0, none⟩ = some (.int .i64 N) → Calls Try.prog 54 #[.int .i64 (0), .int .i64 64, .slice (some ⟨B, 0, none⟩) 1 1] w fun e w' => e = .returned (.bool true) ∧ Below w.heap.size w w')) :
    Calls Try.prog 29 #[.agg #[.int .i64 E, .int .i64 D, .int .i64 N]] w fun e w' => e = .returned (.int .i64 0) ∧ Below w.heap.size w w' := by
  go_enter Try.func29, Try.ntmps29
  go_wp2_with fail
  refine (H0.out _ _ (by simp [go_sem])).mono ?_
  rintro e w1 ⟨rfl, hb⟩
  have kn0 : Blk w1 (w.heap.size) #[.int .i64 E, .int .i64 D, .int .i64 N] 33 := Blk.later hb (by (repeat' (first | (with_reducible assumption) | (with_reducible refine Blk.set2 ?_) | ((with_reducible refine Blk.new ?_); first | rfl | (simp; done)) | (with_reducible refine Blk.later (by assumption) ?_) | (with_reducible refine Blk.alloc ?_) | (with_reducible refine Blk.drewN ?_) | (with_reducible refine Blk.drew ?_) | (with_reducible refine Blk.other ?_ (by first | omega | (simp; done) | (simp; omega))))))
  have k0 := kn0; clear kn0; obtain ⟨a0, b0⟩ := k0.read; have y0 := k0.lt
  have hBw : Below w.heap.size w w1 := by (repeat' (first | (with_reducible exact Below.refl _ _) | (with_reducible assumption) | (with_reducible refine belowThru ?_ (by assumption)) | (with_reducible refine belowAlloc ?_) | (with_reducible refine Below.setCell ?_ (by first | omega | (simp; done) | (simp; omega)) _) | (with_reducible refine Below.drew ?_) | (with_reducible refine below_drewN ?_ _)))
  have hzw1 := hBw.size
  clear hb
  go_wp2_with fail
  refine (H1.out _ _ (by simp [go_sem])).mono ?_
  rintro e w2 ⟨rfl, hb⟩
  have kn0 : Blk w2 (w.heap.size) #[.int .i64 E, .int .i64 D, .int .i64 N] 33 := Blk.later hb (by (repeat' (first | (with_reducible assumption) | (with_reducible refine Blk.set2 ?_) | ((with_reducible refine Blk.new ?_); first | rfl | (simp; done)) | (with_reducible refine Blk.later (by assumption) ?_) | (with_reducible refine Blk.alloc ?_) | (with_reducible refine Blk.drewN ?_) | (with_reducible refine Blk.drew ?_) | (with_reducible refine Blk.other ?_ (by first | omega | (simp; done) | (simp; omega))))))
  clear k0 a0 b0 y0
  have k0 := kn0; clear kn0; obtain ⟨a0, b0⟩ := k0.read; have y0 := k0.lt
  replace hBw : Below w.heap.size w w2 := belowThru (by (repeat' (first | (with_reducible exact Below.refl _ _) | (with_reducible assumption) | (with_reducible refine belowThru ?_ (by assumption)) | (with_reducible refine belowAlloc ?_) | (with_reducible refine Below.setCell ?_ (by first | omega | (simp; done) | (simp; omega)) _) | (with_reducible refine Below.drew ?_) | (with_reducible refine below_drewN ?_ _)))) hb
  have hzw2 := hBw.size
  clear hb
  go_wp2_with fail
  refine (H2.out _ _ (by simp [go_sem])).mono ?_
  rintro e w3 ⟨rfl, hb⟩
  have kn0 : Blk w3 (w.heap.size) #[.int .i64 E, .int .i64 D, .int .i64 N] 33 := Blk.later hb (by (repeat' (first | (with_reducible assumption) | (with_reducible refine Blk.set2 ?_) | ((with_reducible refine Blk.new ?_); first | rfl | (simp; done)) | (with_reducible refine Blk.later (by assumption) ?_) | (with_reducible refine Blk.alloc ?_) | (with_reducible refine Blk.drewN ?_) | (with_reducible refine Blk.drew ?_) | (with_reducible refine Blk.other ?_ (by first | omega | (simp; done) | (simp; omega))))))
  clear k0 a0 b0 y0
  have k0 := kn0; clear kn0; obtain ⟨a0, b0⟩ := k0.read; have y0 := k0.lt
  replace hBw : Below w.heap.size w w3 := belowThru (by (repeat' (first | (with_reducible exact Below.refl _ _) | (with_reducible assumption) | (with_reducible refine belowThru ?_ (by assumption)) | (with_reducible refine belowAlloc ?_) | (with_reducible refine Below.setCell ?_ (by first | omega | (simp; done) | (simp; omega)) _) | (with_reducible refine Below.drew ?_) | (with_reducible refine below_drewN ?_ _)))) hb
  have hzw3 := hBw.size
  clear hb
  go_wp2_with fail
  go_ret
  exact ⟨rfl, by (repeat' (first | (with_reducible exact Below.refl _ _) | (with_reducible assumption) | (with_reducible refine belowThru ?_ (by assumption)) | (with_reducible refine belowAlloc ?_) | (with_reducible refine Below.setCell ?_ (by first | omega | (simp; done) | (simp; omega)) _) | (with_reducible refine Below.drew ?_) | (with_reducible refine below_drewN ?_ _)))⟩
theorem light_any (E D N : Int) (w : World) : Calls Try.prog 29 #[.agg #[.int .i64 E, .int .i64 D, .int .i64 N]] w fun e w' => e = .returned (.int .i64 (if okL E D N then 0 else 41)) ∧ Below w.heap.size w w' := by
  have key : ∀ (lo hi x : Int) (v : Bool), decide (lo ≤ x ∧ x ≤ hi) = v → ∀ (B : Nat) (w : World), w.cell? ⟨B, 0, none⟩ = some (.int .i64 x) → Calls Try.prog 54 #[.int .i64 lo, .int .i64 hi, .slice (some ⟨B, 0, none⟩) 1 1] w fun e w' => e = .returned (.bool v) ∧ Below w.heap.size w w' := by
    intro lo hi x v hv B w h; have := jwithin_one lo hi x B w h; rwa [hv] at this
  by_cases h1 : 1 ≤ E ∧ E ≤ 256
  · by_cases h2 : 0 ≤ D ∧ D ≤ 63
    · by_cases h3 : 0 ≤ N ∧ N ≤ 64
      · rw [if_pos (show okL E D N from ⟨h1, h2, h3⟩)]; exact light_3 E D N w (Lib.hid (key 1 256 E true (decide_eq_true h1))) (Lib.hid (key 0 63 D true (decide_eq_true h2))) (Lib.hid (key 0 64 N true (decide_eq_true h3)))
      · rw [if_neg (show ¬ okL E D N from fun h => h3 h.2.2)]; exact light_2 E D N w (Lib.hid (key 1 256 E true (decide_eq_true h1))) (Lib.hid (key 0 63 D true (decide_eq_true h2))) (Lib.hid (key 0 64 N false (decide_eq_false h3)))
    · rw [if_neg (show ¬ okL E D N from fun h => h2 h.2.1)]; exact light_1 E D N w (Lib.hid (key 1 256 E true (decide_eq_true h1))) (Lib.hid (key 0 63 D false (decide_eq_false h2)))
  · rw [if_neg (show ¬ okL E D N from fun h => h1 h.1)]; exact light_0 E D N w (Lib.hid (key 1 256 E false (decide_eq_false h1)))
set_option maxRecDepth 100000 in
set_option maxHeartbeats 16000000 in
theorem ideal_any (E D N r : Int) (w : World) (hE : 1 ≤ E ∧ E ≤ 256) (hD : 0 ≤ D ∧ D ≤ 63) (hr : 0 ≤ r ∧ r ≤ 4095) : Calls Try.prog 57 #[.agg #[.int .i64 E, .int .i64 D, .int .i64 N], .int .i64 r] w fun e w' => e = .returned (.int .i64 (idl E D r)) ∧ Below w.heap.size w w' := by
  obtain ⟨b1, b2⟩ := idl_bd (D := D) hE hr
  obtain ⟨X, hX⟩ : ∃ X, idl E D r = X := ⟨_, rfl⟩
  have hX' : min 255 (D + E * r / 256) = X := hX
  rw [hX]
  have m1 : IntKind.i64.wrap (E * r) = E * r := wr64 _ (by omega)
  have m2 : (E * r).tdiv 256 = E * r / 256 := Int.tdiv_eq_ediv_of_nonneg b1
  have m3 : IntKind.i64.wrap (E * r / 256) = E * r / 256 := wr64 _ (by omega)
  have m4 : IntKind.i64.wrap (D + E * r / 256) = D + E * r / 256 := wr64 _ (by omega)
  clear hX
  go_enter Try.func57, Try.ntmps57
  go_wp2
  go_ret
  exact ⟨rfl, by (repeat' (first | (with_reducible exact Below.refl _ _) | (with_reducible assumption) | (with_reducible refine belowThru ?_ (by assumption)) | (with_reducible refine belowAlloc ?_) | (with_reducible refine Below.setCell ?_ (by first | omega | (simp; done) | (simp; omega)) _) | (with_reducible refine Below.drew ?_) | (with_reducible refine below_drewN ?_ _)))⟩
set_option maxRecDepth 100000 in
set_option maxHeartbeats 16000000 in
theorem value_0 (E D N r X : Int) (w : World) (HC : Hid (∀ W : World, Calls Try.prog 29 #[.agg #[.int .i64 E, .int .i64 D, .int .i64 N]] W fun e W' => e = .returned (.int .i64 41) ∧ Below W.heap.size W W')) :
    Calls Try.prog 39 #[.agg #[.int .i64 E, .int .i64 D, .int .i64 N], .int .i64 r] w fun e w' => e = .returned (.tuple #[.int .i64 0, .int .i64 41]) ∧ Below w.heap.size w w' := by
  go_enter Try.func39, Try.ntmps39
  go_wp2_with fail
  refine (HC.out _).mono ?_
  rintro e w1 ⟨rfl, hb⟩
  have kn0 : Blk w1 (w.heap.size) #[.int .i64 E, .int .i64 D, .int .i64 N] 33 := Blk.later hb (by (repeat' (first | (with_reducible assumption) | (with_reducible refine Blk.set2 ?_) | ((with_reducible refine Blk.new ?_); first | rfl | (simp; done)) | (with_reducible refine Blk.later (by assumption) ?_) | (with_reducible refine Blk.alloc ?_) | (with_reducible refine Blk.drewN ?_) | (with_reducible refine Blk.drew ?_) | (with_reducible refine Blk.other ?_ (by first | omega | (simp; done) | (simp; omega))))))
  have k0 := kn0; clear kn0; obtain ⟨a0, b0⟩ := k0.read; have y0 := k0.lt
  have hBw : Below w.heap.size w w1 := by (repeat' (first | (with_reducible exact Below.refl _ _) | (with_reducible assumption) | (with_reducible refine belowThru ?_ (by assumption)) | (with_reducible refine belowAlloc ?_) | (with_reducible refine Below.setCell ?_ (by first | omega | (simp; done) | (simp; omega)) _) | (with_reducible refine Below.drew ?_) | (with_reducible refine below_drewN ?_ _)))
  have hzw1 := hBw.size
  clear hb
  go_wp2_with fail
  exact bodyPost_ret (v := .tuple #[.int .i64 0, .int .i64 41]) (by simp only [results, Try.results39]; go_simp) rfl ⟨rfl, by (repeat' (first | (with_reducible exact Below.refl _ _) | (with_reducible assumption) | (with_reducible refine belowThru ?_ (by assumption)) | (with_reducible refine belowAlloc ?_) | (with_reducible refine Below.setCell ?_ (by first | omega | (simp; done) | (simp; omega)) _) | (with_reducible refine Below.drew ?_) | (with_reducible refine below_drewN ?_ _)))⟩
set_option maxRecDepth 100000 in
set_option maxHeartbeats 16000000 in
theorem value_1 (E D N r X : Int) (w : World) (HC : Hid (∀ W : World, Calls Try.prog 29 #[.agg #[.int .i64 E, .int .i64 D, .int .i64 N]] W fun e W' => e = .returned (.int .i64 0) ∧ Below W.heap.size W W')) (HW : Hid (∀ (B : Nat) (w : World), w.cell? ⟨B, 0, none⟩ = some (.int .i64 r) → Calls Try.prog 54 #[.int .i64 (0), .int .i64 4095, .slice (some ⟨B, 0, none⟩) 1 1] w fun e w' => e = .returned (.bool false) ∧ Below w.heap.size w w')) :
    Calls Try.prog 39 #[.agg #[.int .i64 E, .int .i64 D, .int .i64 N], .int .i64 r] w fun e w' => e = .returned (.tuple #[.int .i64 0, .int .i64 2]) ∧ Below w.heap.size w w' := by
  go_enter Try.func39, Try.ntmps39
  go_wp2_with fail
  refine (HC.out _).mono ?_
  rintro e w1 ⟨rfl, hb⟩
  have kn0 : Blk w1 (w.heap.size) #[.int .i64 E, .int .i64 D, .int .i64 N] 33 := Blk.later hb (by (repeat' (first | (with_reducible assumption) | (with_reducible refine Blk.set2 ?_) | ((with_reducible refine Blk.new ?_); first | rfl | (simp; done)) | (with_reducible refine Blk.later (by assumption) ?_) | (with_reducible refine Blk.alloc ?_) | (with_reducible refine Blk.drewN ?_) | (with_reducible refine Blk.drew ?_) | (with_reducible refine Blk.other ?_ (by first | omega | (simp; done) | (simp; omega))))))
  have k0 := kn0; clear kn0; obtain ⟨a0, b0⟩ := k0.read; have y0 := k0.lt
  have hBw : Below w.heap.size w w1 := by (repeat' (first | (with_reducible exact Below.refl _ _) | (with_reducible assumption) | (with_reducible refine belowThru ?_ (by assumption)) | (with_reducible refine belowAlloc ?_) | (with_reducible refine Below.setCell ?_ (by first | omega | (simp; done) | (simp; omega)) _) | (with_reducible refine Below.drew ?_) | (with_reducible refine below_drewN ?_ _)))
  have hzw1 := hBw.size
  clear hb
  go_wp2_with fail
  refine (HW.out _ _ (by simp [go_sem])).mono ?_
  rintro e w2 ⟨rfl, hb⟩
  have kn0 : Blk w2 (w.heap.size) #[.int .i64 E, .int .i64 D, .int .i64 N] 33 := Blk.later hb (by (repeat' (first | (with_reducible assumption) | (with_reducible refine Blk.set2 ?_) | ((with_reducible refine Blk.new ?_); first | rfl | (simp; done)) | (with_reducible refine Blk.later (by assumption) ?_) | (with_reducible refine Blk.alloc ?_) | (with_reducible refine Blk.drewN ?_) | (with_reducible refine Blk.drew ?_) | (with_reducible refine Blk.other ?_ (by first | omega | (simp; done) | (simp; omega))))))
  clear k0 a0 b0 y0
  have k0 := kn0; clear kn0; obtain ⟨a0, b0⟩ := k0.read; have y0 := k0.lt
  replace hBw : Below w.heap.size w w2 := belowThru (by (repeat' (first | (with_reducible exact Below.refl _ _) | (with_reducible assumption) | (with_reducible refine belowThru ?_ (by assumption)) | (with_reducible refine belowAlloc ?_) | (with_reducible refine Below.setCell ?_ (by first | omega | (simp; done) | (simp; omega)) _) | (with_reducible refine Below.drew ?_) | (with_reducible refine below_drewN ?_ _)))) hb
  have hzw2 := hBw.size
  clear hb
  go_wp2_with fail
  exact bodyPost_ret (v := .tuple #[.int .i64 0, .int .i64 2]) (by simp only [results, Try.results39]; go_simp) rfl ⟨rfl, by (repeat' (first | (with_reducible exact Below.refl _ _) | (with_reducible assumption) | (with_reducible refine belowThru ?_ (by assumption)) | (with_reducible refine belowAlloc ?_) | (with_reducible refine Below.setCell ?_ (by first | omega | (simp; done) | (simp; omega)) _) | (with_reducible refine Below.drew ?_) | (with_reducible refine below_drewN ?_ _)))⟩
set_option maxRecDepth 100000 in
set_option maxHeartbeats 16000000 in
theorem value_2 (E D N r X : Int) (w : World) (HC : Hid (∀ W : World, Calls Try.prog 29 #[.agg #[.int .i64 E, .int .i64 D, .int .i64 N]] W fun e W' => e = .returned (.int .i64 0) ∧ Below W.heap.size W W')) (HW : Hid (∀ (B : Nat) (w : World), w.cell? ⟨B, 0, none⟩ = some (.int .i64 r) → Calls Try.prog 54 #[.int .i64 (0), .int .i64 4095, .slice (some ⟨B, 0, none⟩) 1 1] w fun e w' => e = .returned (.bool true) ∧ Below w.heap.size w w')) (HI : Hid (∀ W : World, Calls Try.prog 57 #[.agg #[.int .i64 E, .int .i64 D, .int .i64 N], .int .i64 r] W fun e W' => e = .returned (.int .i64 X) ∧ Below W.heap.size W W')) :
    Calls Try.prog 39 #[.agg #[.int .i64 E, .int .i64 D, .int .i64 N], .int .i64 r] w fun e w' => e = .returned (.tuple #[.int .i64 X, .int .i64 0]) ∧ Below w.heap.size w w' := by
  go_enter Try.func39, Try.ntmps39
  go_wp2_with fail
  refine (HC.out _).mono ?_
  rintro e w1 ⟨rfl, hb⟩
  have kn0 : Blk w1 (w.heap.size) #[.int .i64 E, .int .i64 D, .int .i64 N] 33 := Blk.later hb (by (repeat' (first | (with_reducible assumption) | (with_reducible refine Blk.set2 ?_) | ((with_reducible refine Blk.new ?_); first | rfl | (simp; done)) | (with_reducible refine Blk.later (by assumption) ?_) | (with_reducible refine Blk.alloc ?_) | (with_reducible refine Blk.drewN ?_) | (with_reducible refine Blk.drew ?_) | (with_reducible refine Blk.other ?_ (by first | omega | (simp; done) | (simp; omega))))))
  have k0 := kn0; clear kn0; obtain ⟨a0, b0⟩ := k0.read; have y0 := k0.lt
  have hBw : Below w.heap.size w w1 := by (repeat' (first | (with_reducible exact Below.refl _ _) | (with_reducible assumption) | (with_reducible refine belowThru ?_ (by assumption)) | (with_reducible refine belowAlloc ?_) | (with_reducible refine Below.setCell ?_ (by first | omega | (simp; done) | (simp; omega)) _) | (with_reducible refine Below.drew ?_) | (with_reducible refine below_drewN ?_ _)))
  have hzw1 := hBw.size
  clear hb
  go_wp2_with fail
  refine (HW.out _ _ (by simp [go_sem])).mono ?_
  rintro e w2 ⟨rfl, hb⟩
  have kn0 : Blk w2 (w.heap.size) #[.int .i64 E, .int .i64 D, .int .i64 N] 33 := Blk.later hb (by (repeat' (first | (with_reducible assumption) | (with_reducible refine Blk.set2 ?_) | ((with_reducible refine Blk.new ?_); first | rfl | (simp; done)) | (with_reducible refine Blk.later (by assumption) ?_) | (with_reducible refine Blk.alloc ?_) | (with_reducible refine Blk.drewN ?_) | (with_reducible refine Blk.drew ?_) | (with_reducible refine Blk.other ?_ (by first | omega | (simp; done) | (simp; omega))))))
  clear k0 a0 b0 y0
  have k0 := kn0; clear kn0; obtain ⟨a0, b0⟩ := k0.read; have y0 := k0.lt
  replace hBw : Below w.heap.size w w2 := belowThru (by (repeat' (first | (with_reducible exact Below.refl _ _) | (with_reducible assumption) | (with_reducible refine belowThru ?_ (by assumption)) | (with_reducible refine belowAlloc ?_) | (with_reducible refine Below.setCell ?_ (by first | omega | (simp; done) | (simp; omega)) _) | (with_reducible refine Below.drew ?_) | (with_reducible refine below_drewN ?_ _)))) hb
  have hzw2 := hBw.size
  clear hb
  go_wp2_with fail
  refine (HI.out _).mono ?_
  rintro e w3 ⟨rfl, hb⟩
  have kn0 : Blk w3 (w.heap.size) #[.int .i64 E, .int .i64 D, .int .i64 N] 33 := Blk.later hb (by (repeat' (first | (with_reducible assumption) | (with_reducible refine Blk.set2 ?_) | ((with_reducible refine Blk.new ?_); first | rfl | (simp; done)) | (with_reducible refine Blk.later (by assumption) ?_) | (with_reducible refine Blk.alloc ?_) | (with_reducible refine Blk.drewN ?_) | (with_reducible refine Blk.drew ?_) | (with_reducible refine Blk.other ?_ (by first | omega | (simp; done) | (simp; omega))))))
  clear k0 a0 b0 y0
  have k0 := kn0; clear kn0; obtain ⟨a0, b0⟩ := k0.read; have y0 := k0.lt
  replace hBw : Below w.heap.size w w3 := belowThru (by (repeat' (first | (with_reducible exact Below.refl _ _) | (with_reducible assumption) | (with_reducible refine belowThru ?_ (by assumption)) | (with_reducible refine belowAlloc ?_) | (with_reducible refine Below.setCell ?_ (by first | omega | (simp; done) | (simp; omega)) _) | (with_reducible refine Below.drew ?_) | (with_reducible refine below_drewN ?_ _)))) hb
  have hzw3 := hBw.size
  clear hb
  go_wp2_with fail
  exact bodyPost_ret (v := .tuple #[.int .i64 X, .int .i64 0]) (by simp only [results, Try.results39]; go_simp) rfl ⟨rfl, by (repeat' (first | (with_reducible exact Below.refl _ _) | (with_reducible assumption) | (with_reducible refine belowThru ?_ (by assumption)) | (with_reducible refine belowAlloc ?_) | (with_reducible refine Below.setCell ?_ (by first | omega | (simp; done) | (simp; omega)) _) | (with_reducible refine Below.drew ?_) | (with_reducible refine below_drewN ?_ _)))⟩
theorem value_any (E D N r : Int) (w : World) : Calls Try.prog 39 #[.agg #[.int .i64 E, .int .i64 D, .int .i64 N], .int .i64 r] w fun e w' => e = .returned (.tuple #[.int .i64 (vaV E D N r), .int .i64 (vaE E D N r)]) ∧ Below w.heap.size w w' := by
  have HC := light_any E D N
  have HW : ∀ (B : Nat) (w : World), w.cell? ⟨B, 0, none⟩ = some (.int .i64 r) → _ := jwithin_one 0 4095 r
  unfold vaV
  by_cases h1 : okL E D N
  · rw [if_pos h1] at HC
    by_cases h2 : 0 ≤ r ∧ r ≤ 4095
    · rw [decide_eq_true h2] at HW
      have e1 : vaE E D N r = 0 := (if_neg (fun h => h h1)).trans (if_neg (fun h => h h2))
      rw [e1, if_pos rfl]
      exact value_2 E D N r _ w (Lib.hid HC) (Lib.hid HW) (Lib.hid fun W => ideal_any E D N r W h1.1 h1.2.1 h2)
    · rw [decide_eq_false h2] at HW
      have e1 : vaE E D N r = 2 := (if_neg (fun h => h h1)).trans (if_pos h2)
      rw [e1, if_neg (by decide)]
      exact value_1 E D N r 0 w (Lib.hid HC) (Lib.hid HW)
  · have e1 : vaE E D N r = 41 := if_pos h1
    rw [if_neg h1] at HC
    rw [e1, if_neg (by decide)]
    exact value_0 E D N r 0 w (Lib.hid HC)
set_option maxRecDepth 100000 in
set_option maxHeartbeats 16000000 in
theorem rad_1 (Bl Bv : Nat) (E D N v r X : Int) (w : World) (hs : IntKind.i64.wrap (v - N) = v - N) (k0 : Blk w Bl #[.int .i64 E, .int .i64 D, .int .i64 N] 33) (k1 : Blk w Bv #[.int .i64 v] 3) (HI : Hid (∀ W : World, Calls Try.prog 57 #[.agg #[.int .i64 E, .int .i64 D, .int .i64 N], .int .i64 r] W fun e W' => e = .returned (.int .i64 X) ∧ Below W.heap.size W W')) :
    Calls Try.prog 78 #[.int .i64 r, .pointer (some ⟨Bl, 0, none⟩), .pointer (some ⟨Bv, 0, none⟩)] w fun e w' => e = .returned (.bool (decide (v - N ≤ X))) ∧ Below w.heap.size w w' := by
  obtain ⟨a0, b0⟩ := k0.read; obtain ⟨a1, b1⟩ := k1.read; have y0 := k0.lt; have y1 := k1.lt
  go_enter Try.func78, Try.ntmps78
  have hBw : Below w.heap.size w w := Below.refl _ _
  go_wp2_with fail
  obtain ⟨Wp, rfl⟩ : ∃ Wp, Wp = w := ⟨_, rfl⟩
  clear a0 b0 y0; have y0 := k0.lt
  clear a1 b1 y1; have y1 := k1.lt
  go_region_held3 (fun w' => (Blk w' (Bl) #[.int .i64 E, .int .i64 D, .int .i64 N] 33 ∧ (∀ i : Nat, w'.cell? ⟨Bl, i, none⟩ = (#[.int .i64 E, .int .i64 D, .int .i64 N] : Array Value)[i]?)) ∧ (Blk w' (Bv) #[.int .i64 v] 3 ∧ (∀ i : Nat, w'.cell? ⟨Bv, i, none⟩ = (#[.int .i64 v] : Array Value)[i]?)) ∧ Below Wp.heap.size Wp w')
    (((first | (apply holdL2; (focus assumption); intro p0 p1 pB) | skip); refine ⟨Blk.full ?_, Blk.full ?_, ?_⟩; all_goals (first | ((repeat' (first | (with_reducible assumption) | ((with_reducible refine Blk.new ?_); first | rfl | (simp; done)) | (with_reducible refine Blk.later (by assumption) ?_) | (with_reducible refine Blk.alloc ?_) | (with_reducible refine Blk.drewN ?_) | (with_reducible refine Blk.drew ?_) | (with_reducible refine Blk.other ?_ (by first | omega | (simp; done) | (simp; omega))))); done) | ((repeat' (first | (with_reducible exact Below.refl _ _) | (with_reducible assumption) | (with_reducible refine belowThru ?_ (by assumption)) | (with_reducible refine belowAlloc ?_) | (with_reducible refine Below.setCell ?_ (by first | omega | (simp; done) | (simp; omega)) _) | (with_reducible refine Below.drew ?_) | (with_reducible refine below_drewN ?_ _))); done) | exact Below.refl _ _)))
    (first
    | (go_at_call 57; (with_reducible refine (HI.out _).mono ?_); rintro e w1 ⟨rfl, hb⟩))
  all_goals
    apply holdL2; (focus assumption); intro p0 p1 pB
    go_wp2_with fail
    go_ret
    exact ⟨rfl, belowThru hBw pB⟩
set_option maxRecDepth 100000 in
set_option maxHeartbeats 16000000 in
theorem rad_2 (Bl Bv : Nat) (E D N v r X : Int) (w : World) (hs : IntKind.i64.wrap (v + N) = v + N) (k0 : Blk w Bl #[.int .i64 E, .int .i64 D, .int .i64 N] 33) (k1 : Blk w Bv #[.int .i64 v] 3) (HI : Hid (∀ W : World, Calls Try.prog 57 #[.agg #[.int .i64 E, .int .i64 D, .int .i64 N], .int .i64 r] W fun e W' => e = .returned (.int .i64 X) ∧ Below W.heap.size W W')) :
    Calls Try.prog 79 #[.int .i64 r, .pointer (some ⟨Bl, 0, none⟩), .pointer (some ⟨Bv, 0, none⟩)] w fun e w' => e = .returned (.bool (decide (v + N < X))) ∧ Below w.heap.size w w' := by
  obtain ⟨a0, b0⟩ := k0.read; obtain ⟨a1, b1⟩ := k1.read; have y0 := k0.lt; have y1 := k1.lt
  go_enter Try.func79, Try.ntmps79
  have hBw : Below w.heap.size w w := Below.refl _ _
  go_wp2_with fail
  obtain ⟨Wp, rfl⟩ : ∃ Wp, Wp = w := ⟨_, rfl⟩
  clear a0 b0 y0; have y0 := k0.lt
  clear a1 b1 y1; have y1 := k1.lt
  go_region_held3 (fun w' => (Blk w' (Bl) #[.int .i64 E, .int .i64 D, .int .i64 N] 33 ∧ (∀ i : Nat, w'.cell? ⟨Bl, i, none⟩ = (#[.int .i64 E, .int .i64 D, .int .i64 N] : Array Value)[i]?)) ∧ (Blk w' (Bv) #[.int .i64 v] 3 ∧ (∀ i : Nat, w'.cell? ⟨Bv, i, none⟩ = (#[.int .i64 v] : Array Value)[i]?)) ∧ Below Wp.heap.size Wp w')
    (((first | (apply holdL2; (focus assumption); intro p0 p1 pB) | skip); refine ⟨Blk.full ?_, Blk.full ?_, ?_⟩; all_goals (first | ((repeat' (first | (with_reducible assumption) | ((with_reducible refine Blk.new ?_); first | rfl | (simp; done)) | (with_reducible refine Blk.later (by assumption) ?_) | (with_reducible refine Blk.alloc ?_) | (with_reducible refine Blk.drewN ?_) | (with_reducible refine Blk.drew ?_) | (with_reducible refine Blk.other ?_ (by first | omega | (simp; done) | (simp; omega))))); done) | ((repeat' (first | (with_reducible exact Below.refl _ _) | (with_reducible assumption) | (with_reducible refine belowThru ?_ (by assumption)) | (with_reducible refine belowAlloc ?_) | (with_reducible refine Below.setCell ?_ (by first | omega | (simp; done) | (simp; omega)) _) | (with_reducible refine Below.drew ?_) | (with_reducible refine below_drewN ?_ _))); done) | exact Below.refl _ _)))
    (first
    | (go_at_call 57; (with_reducible refine (HI.out _).mono ?_); rintro e w1 ⟨rfl, hb⟩))
  all_goals
    apply holdL2; (focus assumption); intro p0 p1 pB
    go_wp2_with fail
    go_ret
    exact ⟨rfl, belowThru hBw pB⟩
end Go.Proofs.Ytbdcmdofmokoeaa
/-
  Layer 4: the radiances of a value, by the code.
-/
namespace Go.Proofs.Ytbdcmdofmokoeaa
open Go.RowKit Go.Shelf
set_option linter.unusedVariables false
set_option linter.unusedSimpArgs false

/-- The first number below n of which p holds; n, if there is none. -/
def lsN (p : Nat → Bool) (n : Nat) : Nat := (List.range n).findIdx p
theorem lsN_le (p : Nat → Bool) (n : Nat) : lsN p n ≤ n := by have := List.findIdx_le_length (xs := List.range n) (p := p); rwa [List.length_range] at this
theorem lsN_no {p : Nat → Bool} {n t : Nat} (h : t < lsN p n) : p t = false := by
  have hl := lsN_le p n
  have h1 : t < (List.range n).length := by rw [List.length_range]; omega
  have := List.not_of_lt_findIdx (xs := List.range n) (p := p) h
  rw [List.getElem_range] at this
  simpa using this
theorem lsN_at {p : Nat → Bool} {n : Nat} (h : lsN p n < n) : p (lsN p n) = true := by
  have h1 : lsN p n < (List.range n).length := by rw [List.length_range]; omega
  have h2 := List.findIdx_getElem (xs := List.range n) (p := p) (w := h1)
  have e : (List.range n)[lsN p n] = lsN p n := List.getElem_range _
  have h2' : p ((List.range n)[lsN p n]) = true := h2
  rwa [e] at h2'
def rdA (E D N v : Int) : Nat := lsN (fun r => decide (v - N ≤ idl E D r)) 4096
def rdB (E D N v : Int) : Nat := lsN (fun r => decide (v + N < idl E D r)) 4096
theorem rdA_yes {E D N v : Int} (hE : 1 ≤ E) {t : Nat} (h : rdA E D N v ≤ t) (ht : t < 4096) : v - N ≤ idl E D t := by
  have := of_decide_eq_true (lsN_at (p := fun r => decide (v - N ≤ idl E D r)) (n := 4096) (by unfold rdA at h; omega))
  have m := idl_mono (D := D) hE (show ((rdA E D N v : Nat) : Int) ≤ (t : Int) by omega)
  unfold rdA at m
  omega
theorem rdB_yes {E D N v : Int} (hE : 1 ≤ E) {t : Nat} (h : rdB E D N v ≤ t) (ht : t < 4096) : v + N < idl E D t := by
  have := of_decide_eq_true (lsN_at (p := fun r => decide (v + N < idl E D r)) (n := 4096) (by unfold rdB at h; omega))
  have m := idl_mono (D := D) hE (show ((rdB E D N v : Nat) : Int) ≤ (t : Int) by omega)
  unfold rdB at m
  omega
theorem rdA_no {E D N v : Int} {t : Nat} (h : t < rdA E D N v) : idl E D t < v - N := by have := of_decide_eq_false (lsN_no h); omega
theorem rdB_no {E D N v : Int} {t : Nat} (h : t < rdB E D N v) : idl E D t ≤ v + N := by have := of_decide_eq_false (lsN_no h); omega
set_option maxRecDepth 100000 in
set_option maxHeartbeats 16000000 in
theorem radi_0 (E D N v lo hi : Int) (w : World)  (HC : Hid (∀ W : World, Calls Try.prog 29 #[.agg #[.int .i64 E, .int .i64 D, .int .i64 N]] W fun e W' => e = .returned (.int .i64 41) ∧ Below W.heap.size W W')) :
    Calls Try.prog 40 #[.agg #[.int .i64 E, .int .i64 D, .int .i64 N], .int .i64 v] w fun e w' => e = .returned (.tuple #[.int .i64 0, .int .i64 0, .int .i64 41]) ∧ Below w.heap.size w w' := by
  go_enter Try.func40, Try.ntmps40
  go_wp2_with fail
  refine (HC.out _).mono ?_
  rintro e w1 ⟨rfl, hb⟩
  have kn0 : Blk w1 (w.heap.size) #[.int .i64 E, .int .i64 D, .int .i64 N] 33 := Blk.later hb (by (repeat' (first | (with_reducible assumption) | (with_reducible refine Blk.set2 ?_) | ((with_reducible refine Blk.new ?_); first | rfl | (simp; done)) | (with_reducible refine Blk.later (by assumption) ?_) | (with_reducible refine Blk.alloc ?_) | (with_reducible refine Blk.drewN ?_) | (with_reducible refine Blk.drew ?_) | (with_reducible refine Blk.other ?_ (by first | omega | (simp; done) | (simp; omega))))))
  have kn1 : Blk w1 (w.heap.size + 1) #[.int .i64 v] 3 := Blk.later hb (by (repeat' (first | (with_reducible assumption) | (with_reducible refine Blk.set2 ?_) | ((with_reducible refine Blk.new ?_); first | rfl | (simp; done)) | (with_reducible refine Blk.later (by assumption) ?_) | (with_reducible refine Blk.alloc ?_) | (with_reducible refine Blk.drewN ?_) | (with_reducible refine Blk.drew ?_) | (with_reducible refine Blk.other ?_ (by first | omega | (simp; done) | (simp; omega))))))
  have k0 := kn0; clear kn0; obtain ⟨a0, b0⟩ := k0.read; have y0 := k0.lt
  have k1 := kn1; clear kn1; obtain ⟨a1, b1⟩ := k1.read; have y1 := k1.lt
  have hBw : Below w.heap.size w w1 := by (repeat' (first | (with_reducible exact Below.refl _ _) | (with_reducible assumption) | (with_reducible refine belowThru ?_ (by assumption)) | (with_reducible refine belowAlloc ?_) | (with_reducible refine Below.setCell ?_ (by first | omega | (simp; done) | (simp; omega)) _) | (with_reducible refine Below.drew ?_) | (with_reducible refine below_drewN ?_ _)))
  have hzw1 := hBw.size
  clear hb
  go_wp2_with fail
  exact bodyPost_ret (v := .tuple #[.int .i64 0, .int .i64 0, .int .i64 41]) (by simp only [results, Try.results40]; go_simp) rfl ⟨rfl, by (repeat' (first | (with_reducible exact Below.refl _ _) | (with_reducible assumption) | (with_reducible refine belowThru ?_ (by assumption)) | (with_reducible refine belowAlloc ?_) | (with_reducible refine Below.setCell ?_ (by first | omega | (simp; done) | (simp; omega)) _) | (with_reducible refine Below.drew ?_) | (with_reducible refine below_drewN ?_ _)))⟩
set_option maxRecDepth 100000 in
set_option maxHeartbeats 16000000 in
theorem radi_1 (E D N v lo hi : Int) (w : World)  (HC : Hid (∀ W : World, Calls Try.prog 29 #[.agg #[.int .i64 E, .int .i64 D, .int .i64 N]] W fun e W' => e = .returned (.int .i64 0) ∧ Below W.heap.size W W')) (HW : Hid (∀ (B : Nat) (w : World), w.cell? ⟨B, 0, none⟩ = some (.int .i64 v) → Calls Try.prog 54 #[.int .i64 (0), .int .i64 255, .slice (some ⟨B, 0, none⟩) 1 1] w fun e w' => e = .returned (.bool false) ∧ Below w.heap.size w w')) :
    Calls Try.prog 40 #[.agg #[.int .i64 E, .int .i64 D, .int .i64 N], .int .i64 v] w fun e w' => e = .returned (.tuple #[.int .i64 0, .int .i64 0, .int .i64 2]) ∧ Below w.heap.size w w' := by
  go_enter Try.func40, Try.ntmps40
  go_wp2_with fail
  refine (HC.out _).mono ?_
  rintro e w1 ⟨rfl, hb⟩
  have kn0 : Blk w1 (w.heap.size) #[.int .i64 E, .int .i64 D, .int .i64 N] 33 := Blk.later hb (by (repeat' (first | (with_reducible assumption) | (with_reducible refine Blk.set2 ?_) | ((with_reducible refine Blk.new ?_); first | rfl | (simp; done)) | (with_reducible refine Blk.later (by assumption) ?_) | (with_reducible refine Blk.alloc ?_) | (with_reducible refine Blk.drewN ?_) | (with_reducible refine Blk.drew ?_) | (with_reducible refine Blk.other ?_ (by first | omega | (simp; done) | (simp; omega))))))
  have kn1 : Blk w1 (w.heap.size + 1) #[.int .i64 v] 3 := Blk.later hb (by (repeat' (first | (with_reducible assumption) | (with_reducible refine Blk.set2 ?_) | ((with_reducible refine Blk.new ?_); first | rfl | (simp; done)) | (with_reducible refine Blk.later (by assumption) ?_) | (with_reducible refine Blk.alloc ?_) | (with_reducible refine Blk.drewN ?_) | (with_reducible refine Blk.drew ?_) | (with_reducible refine Blk.other ?_ (by first | omega | (simp; done) | (simp; omega))))))
  have k0 := kn0; clear kn0; obtain ⟨a0, b0⟩ := k0.read; have y0 := k0.lt
  have k1 := kn1; clear kn1; obtain ⟨a1, b1⟩ := k1.read; have y1 := k1.lt
  have hBw : Below w.heap.size w w1 := by (repeat' (first | (with_reducible exact Below.refl _ _) | (with_reducible assumption) | (with_reducible refine belowThru ?_ (by assumption)) | (with_reducible refine belowAlloc ?_) | (with_reducible refine Below.setCell ?_ (by first | omega | (simp; done) | (simp; omega)) _) | (with_reducible refine Below.drew ?_) | (with_reducible refine below_drewN ?_ _)))
  have hzw1 := hBw.size
  clear hb
  go_wp2_with fail
  refine (HW.out _ _ (by simp [go_sem])).mono ?_
  rintro e w2 ⟨rfl, hb⟩
  have kn0 : Blk w2 (w.heap.size) #[.int .i64 E, .int .i64 D, .int .i64 N] 33 := Blk.later hb (by (repeat' (first | (with_reducible assumption) | (with_reducible refine Blk.set2 ?_) | ((with_reducible refine Blk.new ?_); first | rfl | (simp; done)) | (with_reducible refine Blk.later (by assumption) ?_) | (with_reducible refine Blk.alloc ?_) | (with_reducible refine Blk.drewN ?_) | (with_reducible refine Blk.drew ?_) | (with_reducible refine Blk.other ?_ (by first | omega | (simp; done) | (simp; omega))))))
  have kn1 : Blk w2 (w.heap.size + 1) #[.int .i64 v] 3 := Blk.later hb (by (repeat' (first | (with_reducible assumption) | (with_reducible refine Blk.set2 ?_) | ((with_reducible refine Blk.new ?_); first | rfl | (simp; done)) | (with_reducible refine Blk.later (by assumption) ?_) | (with_reducible refine Blk.alloc ?_) | (with_reducible refine Blk.drewN ?_) | (with_reducible refine Blk.drew ?_) | (with_reducible refine Blk.other ?_ (by first | omega | (simp; done) | (simp; omega))))))
  clear k0 a0 b0 y0
  clear k1 a1 b1 y1
  have k0 := kn0; clear kn0; obtain ⟨a0, b0⟩ := k0.read; have y0 := k0.lt
  have k1 := kn1; clear kn1; obtain ⟨a1, b1⟩ := k1.read; have y1 := k1.lt
  replace hBw : Below w.heap.size w w2 := belowThru (by (repeat' (first | (with_reducible exact Below.refl _ _) | (with_reducible assumption) | (with_reducible refine belowThru ?_ (by assumption)) | (with_reducible refine belowAlloc ?_) | (with_reducible refine Below.setCell ?_ (by first | omega | (simp; done) | (simp; omega)) _) | (with_reducible refine Below.drew ?_) | (with_reducible refine below_drewN ?_ _)))) hb
  have hzw2 := hBw.size
  clear hb
  go_wp2_with fail
  exact bodyPost_ret (v := .tuple #[.int .i64 0, .int .i64 0, .int .i64 2]) (by simp only [results, Try.results40]; go_simp) rfl ⟨rfl, by (repeat' (first | (with_reducible exact Below.refl _ _) | (with_reducible assumption) | (with_reducible refine belowThru ?_ (by assumption)) | (with_reducible refine belowAlloc ?_) | (with_reducible refine Below.setCell ?_ (by first | omega | (simp; done) | (simp; omega)) _) | (with_reducible refine Below.drew ?_) | (with_reducible refine below_drewN ?_ _)))⟩
set_option maxRecDepth 100000 in
set_option maxHeartbeats 16000000 in
theorem radi_2 (E D N v lo hi : Int) (w : World) (hj : (lo == hi) = true) (HC : Hid (∀ W : World, Calls Try.prog 29 #[.agg #[.int .i64 E, .int .i64 D, .int .i64 N]] W fun e W' => e = .returned (.int .i64 0) ∧ Below W.heap.size W W')) (HW : Hid (∀ (B : Nat) (w : World), w.cell? ⟨B, 0, none⟩ = some (.int .i64 v) → Calls Try.prog 54 #[.int .i64 (0), .int .i64 255, .slice (some ⟨B, 0, none⟩) 1 1] w fun e w' => e = .returned (.bool true) ∧ Below w.heap.size w w')) (HA : Hid (∀ (Bl Bv : Nat) (W : World), Blk W Bl #[.int .i64 E, .int .i64 D, .int .i64 N] 33 → Blk W Bv #[.int .i64 v] 3 → Calls Try.prog 55 #[.int .i64 4096, .func (.func 78) #[] #[.pointer (some ⟨Bl, 0, none⟩), .pointer (some ⟨Bv, 0, none⟩)]] W fun e W' => e = .returned (.int .i64 lo) ∧ Below W.heap.size W W')) (HB : Hid (∀ (Bl Bv : Nat) (W : World), Blk W Bl #[.int .i64 E, .int .i64 D, .int .i64 N] 33 → Blk W Bv #[.int .i64 v] 3 → Calls Try.prog 55 #[.int .i64 4096, .func (.func 79) #[] #[.pointer (some ⟨Bl, 0, none⟩), .pointer (some ⟨Bv, 0, none⟩)]] W fun e W' => e = .returned (.int .i64 hi) ∧ Below W.heap.size W W')) :
    Calls Try.prog 40 #[.agg #[.int .i64 E, .int .i64 D, .int .i64 N], .int .i64 v] w fun e w' => e = .returned (.tuple #[.int .i64 0, .int .i64 0, .int .i64 6]) ∧ Below w.heap.size w w' := by
  go_enter Try.func40, Try.ntmps40
  go_wp2_with fail
  refine (HC.out _).mono ?_
  rintro e w1 ⟨rfl, hb⟩
  have kn0 : Blk w1 (w.heap.size) #[.int .i64 E, .int .i64 D, .int .i64 N] 33 := Blk.later hb (by (repeat' (first | (with_reducible assumption) | (with_reducible refine Blk.set2 ?_) | ((with_reducible refine Blk.new ?_); first | rfl | (simp; done)) | (with_reducible refine Blk.later (by assumption) ?_) | (with_reducible refine Blk.alloc ?_) | (with_reducible refine Blk.drewN ?_) | (with_reducible refine Blk.drew ?_) | (with_reducible refine Blk.other ?_ (by first | omega | (simp; done) | (simp; omega))))))
  have kn1 : Blk w1 (w.heap.size + 1) #[.int .i64 v] 3 := Blk.later hb (by (repeat' (first | (with_reducible assumption) | (with_reducible refine Blk.set2 ?_) | ((with_reducible refine Blk.new ?_); first | rfl | (simp; done)) | (with_reducible refine Blk.later (by assumption) ?_) | (with_reducible refine Blk.alloc ?_) | (with_reducible refine Blk.drewN ?_) | (with_reducible refine Blk.drew ?_) | (with_reducible refine Blk.other ?_ (by first | omega | (simp; done) | (simp; omega))))))
  have k0 := kn0; clear kn0; obtain ⟨a0, b0⟩ := k0.read; have y0 := k0.lt
  have k1 := kn1; clear kn1; obtain ⟨a1, b1⟩ := k1.read; have y1 := k1.lt
  have hBw : Below w.heap.size w w1 := by (repeat' (first | (with_reducible exact Below.refl _ _) | (with_reducible assumption) | (with_reducible refine belowThru ?_ (by assumption)) | (with_reducible refine belowAlloc ?_) | (with_reducible refine Below.setCell ?_ (by first | omega | (simp; done) | (simp; omega)) _) | (with_reducible refine Below.drew ?_) | (with_reducible refine below_drewN ?_ _)))
  have hzw1 := hBw.size
  clear hb
  go_wp2_with fail
  refine (HW.out _ _ (by simp [go_sem])).mono ?_
  rintro e w2 ⟨rfl, hb⟩
  have kn0 : Blk w2 (w.heap.size) #[.int .i64 E, .int .i64 D, .int .i64 N] 33 := Blk.later hb (by (repeat' (first | (with_reducible assumption) | (with_reducible refine Blk.set2 ?_) | ((with_reducible refine Blk.new ?_); first | rfl | (simp; done)) | (with_reducible refine Blk.later (by assumption) ?_) | (with_reducible refine Blk.alloc ?_) | (with_reducible refine Blk.drewN ?_) | (with_reducible refine Blk.drew ?_) | (with_reducible refine Blk.other ?_ (by first | omega | (simp; done) | (simp; omega))))))
  have kn1 : Blk w2 (w.heap.size + 1) #[.int .i64 v] 3 := Blk.later hb (by (repeat' (first | (with_reducible assumption) | (with_reducible refine Blk.set2 ?_) | ((with_reducible refine Blk.new ?_); first | rfl | (simp; done)) | (with_reducible refine Blk.later (by assumption) ?_) | (with_reducible refine Blk.alloc ?_) | (with_reducible refine Blk.drewN ?_) | (with_reducible refine Blk.drew ?_) | (with_reducible refine Blk.other ?_ (by first | omega | (simp; done) | (simp; omega))))))
  clear k0 a0 b0 y0
  clear k1 a1 b1 y1
  have k0 := kn0; clear kn0; obtain ⟨a0, b0⟩ := k0.read; have y0 := k0.lt
  have k1 := kn1; clear kn1; obtain ⟨a1, b1⟩ := k1.read; have y1 := k1.lt
  replace hBw : Below w.heap.size w w2 := belowThru (by (repeat' (first | (with_reducible exact Below.refl _ _) | (with_reducible assumption) | (with_reducible refine belowThru ?_ (by assumption)) | (with_reducible refine belowAlloc ?_) | (with_reducible refine Below.setCell ?_ (by first | omega | (simp; done) | (simp; omega)) _) | (with_reducible refine Below.drew ?_) | (with_reducible refine below_drewN ?_ _)))) hb
  have hzw2 := hBw.size
  clear hb
  go_wp2_with fail
  refine (HA.out _ _ _ k0 k1).mono ?_
  rintro e w3 ⟨rfl, hb⟩
  have kn0 : Blk w3 (w.heap.size) #[.int .i64 E, .int .i64 D, .int .i64 N] 33 := Blk.later hb (by (repeat' (first | (with_reducible assumption) | (with_reducible refine Blk.set2 ?_) | ((with_reducible refine Blk.new ?_); first | rfl | (simp; done)) | (with_reducible refine Blk.later (by assumption) ?_) | (with_reducible refine Blk.alloc ?_) | (with_reducible refine Blk.drewN ?_) | (with_reducible refine Blk.drew ?_) | (with_reducible refine Blk.other ?_ (by first | omega | (simp; done) | (simp; omega))))))
  have kn1 : Blk w3 (w.heap.size + 1) #[.int .i64 v] 3 := Blk.later hb (by (repeat' (first | (with_reducible assumption) | (with_reducible refine Blk.set2 ?_) | ((with_reducible refine Blk.new ?_); first | rfl | (simp; done)) | (with_reducible refine Blk.later (by assumption) ?_) | (with_reducible refine Blk.alloc ?_) | (with_reducible refine Blk.drewN ?_) | (with_reducible refine Blk.drew ?_) | (with_reducible refine Blk.other ?_ (by first | omega | (simp; done) | (simp; omega))))))
  clear k0 a0 b0 y0
  clear k1 a1 b1 y1
  have k0 := kn0; clear kn0; obtain ⟨a0, b0⟩ := k0.read; have y0 := k0.lt
  have k1 := kn1; clear kn1; obtain ⟨a1, b1⟩ := k1.read; have y1 := k1.lt
  replace hBw : Below w.heap.size w w3 := belowThru (by (repeat' (first | (with_reducible exact Below.refl _ _) | (with_reducible assumption) | (with_reducible refine belowThru ?_ (by assumption)) | (with_reducible refine belowAlloc ?_) | (with_reducible refine Below.setCell ?_ (by first | omega | (simp; done) | (simp; omega)) _) | (with_reducible refine Below.drew ?_) | (with_reducible refine below_drewN ?_ _)))) hb
  have hzw3 := hBw.size
  clear hb
  go_wp2_with fail
  refine (HB.out _ _ _ k0 k1).mono ?_
  rintro e w4 ⟨rfl, hb⟩
  have kn0 : Blk w4 (w.heap.size) #[.int .i64 E, .int .i64 D, .int .i64 N] 33 := Blk.later hb (by (repeat' (first | (with_reducible assumption) | (with_reducible refine Blk.set2 ?_) | ((with_reducible refine Blk.new ?_); first | rfl | (simp; done)) | (with_reducible refine Blk.later (by assumption) ?_) | (with_reducible refine Blk.alloc ?_) | (with_reducible refine Blk.drewN ?_) | (with_reducible refine Blk.drew ?_) | (with_reducible refine Blk.other ?_ (by first | omega | (simp; done) | (simp; omega))))))
  have kn1 : Blk w4 (w.heap.size + 1) #[.int .i64 v] 3 := Blk.later hb (by (repeat' (first | (with_reducible assumption) | (with_reducible refine Blk.set2 ?_) | ((with_reducible refine Blk.new ?_); first | rfl | (simp; done)) | (with_reducible refine Blk.later (by assumption) ?_) | (with_reducible refine Blk.alloc ?_) | (with_reducible refine Blk.drewN ?_) | (with_reducible refine Blk.drew ?_) | (with_reducible refine Blk.other ?_ (by first | omega | (simp; done) | (simp; omega))))))
  clear k0 a0 b0 y0
  clear k1 a1 b1 y1
  have k0 := kn0; clear kn0; obtain ⟨a0, b0⟩ := k0.read; have y0 := k0.lt
  have k1 := kn1; clear kn1; obtain ⟨a1, b1⟩ := k1.read; have y1 := k1.lt
  replace hBw : Below w.heap.size w w4 := belowThru (by (repeat' (first | (with_reducible exact Below.refl _ _) | (with_reducible assumption) | (with_reducible refine belowThru ?_ (by assumption)) | (with_reducible refine belowAlloc ?_) | (with_reducible refine Below.setCell ?_ (by first | omega | (simp; done) | (simp; omega)) _) | (with_reducible refine Below.drew ?_) | (with_reducible refine below_drewN ?_ _)))) hb
  have hzw4 := hBw.size
  clear hb
  go_wp2_with fail
  exact bodyPost_ret (v := .tuple #[.int .i64 0, .int .i64 0, .int .i64 6]) (by simp only [results, Try.results40]; go_simp) rfl ⟨rfl, by (repeat' (first | (with_reducible exact Below.refl _ _) | (with_reducible assumption) | (with_reducible refine belowThru ?_ (by assumption)) | (with_reducible refine belowAlloc ?_) | (with_reducible refine Below.setCell ?_ (by first | omega | (simp; done) | (simp; omega)) _) | (with_reducible refine Below.drew ?_) | (with_reducible refine below_drewN ?_ _)))⟩
set_option maxRecDepth 100000 in
set_option maxHeartbeats 16000000 in
theorem radi_3 (E D N v lo hi : Int) (w : World) (hj : (lo == hi) = false) (hw : IntKind.i64.wrap (hi - 1) = hi - 1) (HC : Hid (∀ W : World, Calls Try.prog 29 #[.agg #[.int .i64 E, .int .i64 D, .int .i64 N]] W fun e W' => e = .returned (.int .i64 0) ∧ Below W.heap.size W W')) (HW : Hid (∀ (B : Nat) (w : World), w.cell? ⟨B, 0, none⟩ = some (.int .i64 v) → Calls Try.prog 54 #[.int .i64 (0), .int .i64 255, .slice (some ⟨B, 0, none⟩) 1 1] w fun e w' => e = .returned (.bool true) ∧ Below w.heap.size w w')) (HA : Hid (∀ (Bl Bv : Nat) (W : World), Blk W Bl #[.int .i64 E, .int .i64 D, .int .i64 N] 33 → Blk W Bv #[.int .i64 v] 3 → Calls Try.prog 55 #[.int .i64 4096, .func (.func 78) #[] #[.pointer (some ⟨Bl, 0, none⟩), .pointer (some ⟨Bv, 0, none⟩)]] W fun e W' => e = .returned (.int .i64 lo) ∧ Below W.heap.size W W')) (HB : Hid (∀ (Bl Bv : Nat) (W : World), Blk W Bl #[.int .i64 E, .int .i64 D, .int .i64 N] 33 → Blk W Bv #[.int .i64 v] 3 → Calls Try.prog 55 #[.int .i64 4096, .func (.func 79) #[] #[.pointer (some ⟨Bl, 0, none⟩), .pointer (some ⟨Bv, 0, none⟩)]] W fun e W' => e = .returned (.int .i64 hi) ∧ Below W.heap.size W W')) :
    Calls Try.prog 40 #[.agg #[.int .i64 E, .int .i64 D, .int .i64 N], .int .i64 v] w fun e w' => e = .returned (.tuple #[.int .i64 lo, .int .i64 (hi - 1), .int .i64 0]) ∧ Below w.heap.size w w' := by
  go_enter Try.func40, Try.ntmps40
  go_wp2_with fail
  refine (HC.out _).mono ?_
  rintro e w1 ⟨rfl, hb⟩
  have kn0 : Blk w1 (w.heap.size) #[.int .i64 E, .int .i64 D, .int .i64 N] 33 := Blk.later hb (by (repeat' (first | (with_reducible assumption) | (with_reducible refine Blk.set2 ?_) | ((with_reducible refine Blk.new ?_); first | rfl | (simp; done)) | (with_reducible refine Blk.later (by assumption) ?_) | (with_reducible refine Blk.alloc ?_) | (with_reducible refine Blk.drewN ?_) | (with_reducible refine Blk.drew ?_) | (with_reducible refine Blk.other ?_ (by first | omega | (simp; done) | (simp; omega))))))
  have kn1 : Blk w1 (w.heap.size + 1) #[.int .i64 v] 3 := Blk.later hb (by (repeat' (first | (with_reducible assumption) | (with_reducible refine Blk.set2 ?_) | ((with_reducible refine Blk.new ?_); first | rfl | (simp; done)) | (with_reducible refine Blk.later (by assumption) ?_) | (with_reducible refine Blk.alloc ?_) | (with_reducible refine Blk.drewN ?_) | (with_reducible refine Blk.drew ?_) | (with_reducible refine Blk.other ?_ (by first | omega | (simp; done) | (simp; omega))))))
  have k0 := kn0; clear kn0; obtain ⟨a0, b0⟩ := k0.read; have y0 := k0.lt
  have k1 := kn1; clear kn1; obtain ⟨a1, b1⟩ := k1.read; have y1 := k1.lt
  have hBw : Below w.heap.size w w1 := by (repeat' (first | (with_reducible exact Below.refl _ _) | (with_reducible assumption) | (with_reducible refine belowThru ?_ (by assumption)) | (with_reducible refine belowAlloc ?_) | (with_reducible refine Below.setCell ?_ (by first | omega | (simp; done) | (simp; omega)) _) | (with_reducible refine Below.drew ?_) | (with_reducible refine below_drewN ?_ _)))
  have hzw1 := hBw.size
  clear hb
  go_wp2_with fail
  refine (HW.out _ _ (by simp [go_sem])).mono ?_
  rintro e w2 ⟨rfl, hb⟩
  have kn0 : Blk w2 (w.heap.size) #[.int .i64 E, .int .i64 D, .int .i64 N] 33 := Blk.later hb (by (repeat' (first | (with_reducible assumption) | (with_reducible refine Blk.set2 ?_) | ((with_reducible refine Blk.new ?_); first | rfl | (simp; done)) | (with_reducible refine Blk.later (by assumption) ?_) | (with_reducible refine Blk.alloc ?_) | (with_reducible refine Blk.drewN ?_) | (with_reducible refine Blk.drew ?_) | (with_reducible refine Blk.other ?_ (by first | omega | (simp; done) | (simp; omega))))))
  have kn1 : Blk w2 (w.heap.size + 1) #[.int .i64 v] 3 := Blk.later hb (by (repeat' (first | (with_reducible assumption) | (with_reducible refine Blk.set2 ?_) | ((with_reducible refine Blk.new ?_); first | rfl | (simp; done)) | (with_reducible refine Blk.later (by assumption) ?_) | (with_reducible refine Blk.alloc ?_) | (with_reducible refine Blk.drewN ?_) | (with_reducible refine Blk.drew ?_) | (with_reducible refine Blk.other ?_ (by first | omega | (simp; done) | (simp; omega))))))
  clear k0 a0 b0 y0
  clear k1 a1 b1 y1
  have k0 := kn0; clear kn0; obtain ⟨a0, b0⟩ := k0.read; have y0 := k0.lt
  have k1 := kn1; clear kn1; obtain ⟨a1, b1⟩ := k1.read; have y1 := k1.lt
  replace hBw : Below w.heap.size w w2 := belowThru (by (repeat' (first | (with_reducible exact Below.refl _ _) | (with_reducible assumption) | (with_reducible refine belowThru ?_ (by assumption)) | (with_reducible refine belowAlloc ?_) | (with_reducible refine Below.setCell ?_ (by first | omega | (simp; done) | (simp; omega)) _) | (with_reducible refine Below.drew ?_) | (with_reducible refine below_drewN ?_ _)))) hb
  have hzw2 := hBw.size
  clear hb
  go_wp2_with fail
  refine (HA.out _ _ _ k0 k1).mono ?_
  rintro e w3 ⟨rfl, hb⟩
  have kn0 : Blk w3 (w.heap.size) #[.int .i64 E, .int .i64 D, .int .i64 N] 33 := Blk.later hb (by (repeat' (first | (with_reducible assumption) | (with_reducible refine Blk.set2 ?_) | ((with_reducible refine Blk.new ?_); first | rfl | (simp; done)) | (with_reducible refine Blk.later (by assumption) ?_) | (with_reducible refine Blk.alloc ?_) | (with_reducible refine Blk.drewN ?_) | (with_reducible refine Blk.drew ?_) | (with_reducible refine Blk.other ?_ (by first | omega | (simp; done) | (simp; omega))))))
  have kn1 : Blk w3 (w.heap.size + 1) #[.int .i64 v] 3 := Blk.later hb (by (repeat' (first | (with_reducible assumption) | (with_reducible refine Blk.set2 ?_) | ((with_reducible refine Blk.new ?_); first | rfl | (simp; done)) | (with_reducible refine Blk.later (by assumption) ?_) | (with_reducible refine Blk.alloc ?_) | (with_reducible refine Blk.drewN ?_) | (with_reducible refine Blk.drew ?_) | (with_reducible refine Blk.other ?_ (by first | omega | (simp; done) | (simp; omega))))))
  clear k0 a0 b0 y0
  clear k1 a1 b1 y1
  have k0 := kn0; clear kn0; obtain ⟨a0, b0⟩ := k0.read; have y0 := k0.lt
  have k1 := kn1; clear kn1; obtain ⟨a1, b1⟩ := k1.read; have y1 := k1.lt
  replace hBw : Below w.heap.size w w3 := belowThru (by (repeat' (first | (with_reducible exact Below.refl _ _) | (with_reducible assumption) | (with_reducible refine belowThru ?_ (by assumption)) | (with_reducible refine belowAlloc ?_) | (with_reducible refine Below.setCell ?_ (by first | omega | (simp; done) | (simp; omega)) _) | (with_reducible refine Below.drew ?_) | (with_reducible refine below_drewN ?_ _)))) hb
  have hzw3 := hBw.size
  clear hb
  go_wp2_with fail
  refine (HB.out _ _ _ k0 k1).mono ?_
  rintro e w4 ⟨rfl, hb⟩
  have kn0 : Blk w4 (w.heap.size) #[.int .i64 E, .int .i64 D, .int .i64 N] 33 := Blk.later hb (by (repeat' (first | (with_reducible assumption) | (with_reducible refine Blk.set2 ?_) | ((with_reducible refine Blk.new ?_); first | rfl | (simp; done)) | (with_reducible refine Blk.later (by assumption) ?_) | (with_reducible refine Blk.alloc ?_) | (with_reducible refine Blk.drewN ?_) | (with_reducible refine Blk.drew ?_) | (with_reducible refine Blk.other ?_ (by first | omega | (simp; done) | (simp; omega))))))
  have kn1 : Blk w4 (w.heap.size + 1) #[.int .i64 v] 3 := Blk.later hb (by (repeat' (first | (with_reducible assumption) | (with_reducible refine Blk.set2 ?_) | ((with_reducible refine Blk.new ?_); first | rfl | (simp; done)) | (with_reducible refine Blk.later (by assumption) ?_) | (with_reducible refine Blk.alloc ?_) | (with_reducible refine Blk.drewN ?_) | (with_reducible refine Blk.drew ?_) | (with_reducible refine Blk.other ?_ (by first | omega | (simp; done) | (simp; omega))))))
  clear k0 a0 b0 y0
  clear k1 a1 b1 y1
  have k0 := kn0; clear kn0; obtain ⟨a0, b0⟩ := k0.read; have y0 := k0.lt
  have k1 := kn1; clear kn1; obtain ⟨a1, b1⟩ := k1.read; have y1 := k1.lt
  replace hBw : Below w.heap.size w w4 := belowThru (by (repeat' (first | (with_reducible exact Below.refl _ _) | (with_reducible assumption) | (with_reducible refine belowThru ?_ (by assumption)) | (with_reducible refine belowAlloc ?_) | (with_reducible refine Below.setCell ?_ (by first | omega | (simp; done) | (simp; omega)) _) | (with_reducible refine Below.drew ?_) | (with_reducible refine below_drewN ?_ _)))) hb
  have hzw4 := hBw.size
  clear hb
  go_wp2_with fail
  exact bodyPost_ret (v := .tuple #[.int .i64 lo, .int .i64 (hi - 1), .int .i64 0]) (by simp only [results, Try.results40]; go_simp) rfl ⟨rfl, by (repeat' (first | (with_reducible exact Below.refl _ _) | (with_reducible assumption) | (with_reducible refine belowThru ?_ (by assumption)) | (with_reducible refine belowAlloc ?_) | (with_reducible refine Below.setCell ?_ (by first | omega | (simp; done) | (simp; omega)) _) | (with_reducible refine Below.drew ?_) | (with_reducible refine below_drewN ?_ _)))⟩
def raeE (E D N v : Int) : Int := if ¬ okL E D N then 41 else if ¬ (0 ≤ v ∧ v ≤ 255) then 2 else if rdA E D N v = rdB E D N v then 6 else 0
def raLo (E D N v : Int) : Int := if raeE E D N v = 0 then (rdA E D N v : Int) else 0
def raHi (E D N v : Int) : Int := if raeE E D N v = 0 then (rdB E D N v : Int) - 1 else 0
theorem radi_any (E D N v : Int) (w : World) : Calls Try.prog 40 #[.agg #[.int .i64 E, .int .i64 D, .int .i64 N], .int .i64 v] w fun e w' => e = .returned (.tuple #[.int .i64 (raLo E D N v), .int .i64 (raHi E D N v), .int .i64 (raeE E D N v)]) ∧ Below w.heap.size w w' := by
  have HC := light_any E D N
  have HW : ∀ (B : Nat) (w : World), w.cell? ⟨B, 0, none⟩ = some (.int .i64 v) → _ := jwithin_one 0 255 v
  unfold raLo raHi
  by_cases h1 : okL E D N
  · rw [if_pos h1] at HC
    by_cases h2 : 0 ≤ v ∧ v ≤ 255
    · rw [decide_eq_true h2] at HW
      obtain ⟨hE, hD, hN⟩ := h1
      have l1 := lsN_le (fun r => decide (v - N ≤ idl E D r)) 4096
      have l2 := lsN_le (fun r => decide (v + N < idl E D r)) 4096
      have HA : ∀ (Bl Bv : Nat) (W : World), Blk W Bl #[.int .i64 E, .int .i64 D, .int .i64 N] 33 → Blk W Bv #[.int .i64 v] 3 → Calls Try.prog 55 #[.int .i64 4096, .func (.func 78) #[] #[.pointer (some ⟨Bl, 0, none⟩), .pointer (some ⟨Bv, 0, none⟩)]] W fun e W' => e = .returned (.int .i64 (rdA E D N v : Nat)) ∧ Below W.heap.size W W' := fun Bl Bv W h3 h4 =>
        search_any 78 #[.pointer (some ⟨Bl, 0, none⟩), .pointer (some ⟨Bv, 0, none⟩)] 4096 (rdA E D N v) (fun r => decide (v - N ≤ idl E D r)) W (fun _ _ => by kernel_rfl) (by omega) l1 (fun W1 i hB hi => rad_1 Bl Bv E D N v i (idl E D i) W1 (wr64 _ (by omega)) (Blk.later hB h3) (Blk.later hB h4) (Lib.hid fun W2 => ideal_any E D N i W2 hE hD (by omega))) (fun t ht => lsN_no ht) (fun t a b => decide_eq_true (rdA_yes hE.1 a b))
      have HB : ∀ (Bl Bv : Nat) (W : World), Blk W Bl #[.int .i64 E, .int .i64 D, .int .i64 N] 33 → Blk W Bv #[.int .i64 v] 3 → Calls Try.prog 55 #[.int .i64 4096, .func (.func 79) #[] #[.pointer (some ⟨Bl, 0, none⟩), .pointer (some ⟨Bv, 0, none⟩)]] W fun e W' => e = .returned (.int .i64 (rdB E D N v : Nat)) ∧ Below W.heap.size W W' := fun Bl Bv W h3 h4 =>
        search_any 79 #[.pointer (some ⟨Bl, 0, none⟩), .pointer (some ⟨Bv, 0, none⟩)] 4096 (rdB E D N v) (fun r => decide (v + N < idl E D r)) W (fun _ _ => by kernel_rfl) (by omega) l2 (fun W1 i hB hi => rad_2 Bl Bv E D N v i (idl E D i) W1 (wr64 _ (by omega)) (Blk.later hB h3) (Blk.later hB h4) (Lib.hid fun W2 => ideal_any E D N i W2 hE hD (by omega))) (fun t ht => lsN_no ht) (fun t a b => decide_eq_true (rdB_yes hE.1 a b))
      by_cases h3 : rdA E D N v = rdB E D N v
      · have e1 : raeE E D N v = 6 := (if_neg (fun h => h ⟨hE, hD, hN⟩)).trans ((if_neg (fun h => h h2)).trans (if_pos h3))
        rw [e1, if_neg (by decide), if_neg (by decide)]
        exact radi_2 E D N v _ _ w (by rw [h3]; simp) (Lib.hid HC) (Lib.hid HW) (Lib.hid HA) (Lib.hid HB)
      · have e1 : raeE E D N v = 0 := (if_neg (fun h => h ⟨hE, hD, hN⟩)).trans ((if_neg (fun h => h h2)).trans (if_neg h3))
        rw [e1, if_pos rfl, if_pos rfl]
        have l2' : rdB E D N v ≤ 4096 := l2
        exact radi_3 E D N v _ _ w (by simp; omega) (wr64 _ (by omega)) (Lib.hid HC) (Lib.hid HW) (Lib.hid HA) (Lib.hid HB)
    · rw [decide_eq_false h2] at HW
      have e1 : raeE E D N v = 2 := (if_neg (fun h => h h1)).trans (if_pos h2)
      rw [e1, if_neg (by decide), if_neg (by decide)]
      exact radi_1 E D N v 0 0 w (Lib.hid HC) (Lib.hid HW)
  · have e1 : raeE E D N v = 41 := if_pos h1
    rw [if_neg h1] at HC
    rw [e1, if_neg (by decide), if_neg (by decide)]
    exact radi_0 E D N v 0 0 w (Lib.hid HC)
end Go.Proofs.Ytbdcmdofmokoeaa
/-
  The document's own answers, layer 1: common divisors, and which fractions are valid.
-/
namespace Go.Proofs.Ytbdcmdofmokoeaa
open Go.RowKit

/-- The number of two words that a block holds. -/
def wideOf (w : World) (b : Nat) : Int := match w.cell? ⟨b, 0, none⟩, w.cell? ⟨b, 1, none⟩ with
  | some (.int _ h), some (.int _ l) => h * 18446744073709551616 + l
  | _, _ => 0
theorem Blk.wide {w : World} {b : Nat} {z : Int} {t : TypeId} (k : Blk w b #[.int .u64 (whi z), .int .u64 (wlo z)] t) (h0 : 0 ≤ z) (h1 : z < 170141183460469231731687303715884105728) : wideOf w b = z := by
  unfold wideOf
  have e0 : w.cell? ⟨b, 0, none⟩ = some (.int .u64 (whi z)) := k.cells 0
  have e1 : w.cell? ⟨b, 1, none⟩ = some (.int .u64 (wlo z)) := k.cells 1
  rw [e0, e1]
  exact (pos_whi z h0 h1).symm

end Go.Proofs.Ytbdcmdofmokoeaa
/-
  The document's own answers, layer 1: order, products, quotients and sums of rational numbers that fit.
-/
namespace Go.Proofs.Ytbdcmdofmokoeaa
open Go.RowKit

end Go.Proofs.Ytbdcmdofmokoeaa
/-
  Layer 4: tables: which part a place lies in; the corrected place: plain numbers.
-/
namespace Go.Proofs.Ytbdcmdofmokoeaa
set_option linter.unusedVariables false
set_option linter.unusedSimpArgs false

def at1 (ks : List (Int × Int)) (i : Nat) : Int := (ks[i]?.getD (0, 0)).1
def to1 (ks : List (Int × Int)) (i : Nat) : Int := (ks[i]?.getD (0, 0)).2
theorem knot_get {ks : List (Int × Int)} {i : Nat} (h : i < ks.length) : ks[i]? = some (at1 ks i, to1 ks i) := by
  unfold at1 to1; rw [List.getElem?_eq_getElem h]; rfl
theorem okT.inT {ks : List (Int × Int)} (h : okT ks) {i : Nat} (hi : i < ks.length) : (-4096 ≤ at1 ks i ∧ at1 ks i ≤ 4096) ∧ -4096 ≤ to1 ks i ∧ to1 ks i ≤ 4096 := h.2.1 i _ hi (knot_get hi)
theorem okT.lt {ks : List (Int × Int)} (h : okT ks) {i : Nat} (hi : i + 1 < ks.length) : at1 ks i < at1 ks (i + 1) ∧ to1 ks i < to1 ks (i + 1) := h.2.2 i _ _ hi (knot_get (by omega)) (knot_get hi)
theorem okT.le {ks : List (Int × Int)} (h : okT ks) (i d : Nat) (hi : i + d < ks.length) : at1 ks i ≤ at1 ks (i + d) := by
  induction d with
  | zero => exact Int.le_refl _
  | succ d ih =>
    have := ih (by omega)
    have := (h.lt (i := i + d) (by omega)).1
    show at1 ks i ≤ at1 ks (i + d + 1)
    omega
/-- The part of a table that a place lies in. -/
def Seg (ks : List (Int × Int)) (X D : Int) (i : Nat) : Prop := i + 2 ≤ ks.length ∧ (∀ t, t < i → at1 ks (t + 1) * D < X) ∧ X ≤ at1 ks (i + 1) * D
theorem seg_least (f : Nat → Prop) : ∀ m, f m → ∃ i, i ≤ m ∧ f i ∧ ∀ t, t < i → ¬ f t := by
  intro m
  induction m using Nat.strongRecOn with
  | _ m ih =>
    intro hm
    by_cases h : ∃ t, t < m ∧ f t
    · obtain ⟨t, ht, hf⟩ := h
      obtain ⟨i, h1, h2, h3⟩ := ih t ht hf
      exact ⟨i, by omega, h2, h3⟩
    · exact ⟨m, Nat.le_refl _, hm, fun t ht hf => h ⟨t, ht, hf⟩⟩
theorem seg_ex {ks : List (Int × Int)} (h : okT ks) {X D : Int} (hX : X ≤ at1 ks (ks.length - 1) * D) : ∃ i, Seg ks X D i := by
  have hl := h.1
  obtain ⟨i, h1, h2, h3⟩ := seg_least (fun i => X ≤ at1 ks (i + 1) * D) (ks.length - 2) (by show X ≤ _; rwa [show ks.length - 2 + 1 = ks.length - 1 by omega])
  exact ⟨i, by omega, fun t ht => Int.not_le.1 (h3 t ht), h2⟩
theorem Seg.later {ks : List (Int × Int)} (h : okT ks) {X D : Int} (hD : 0 ≤ D) {i t : Nat} (s : Seg ks X D i) (ht : i ≤ t) (hl : t + 1 < ks.length) : X ≤ at1 ks (t + 1) * D := by
  have h1 := h.le (i + 1) (t - i) (by omega)
  rw [show i + 1 + (t - i) = t + 1 by omega] at h1
  exact Int.le_trans s.2.2 (Int.mul_le_mul_of_nonneg_right h1 hD)
/-- The place may be corrected. -/
def okX (ks : List (Int × Int)) (X D : Int) : Prop := okF X D ∧ D ≤ 1048576 ∧ at1 ks 0 * D ≤ X ∧ X ≤ at1 ks (ks.length - 1) * D
/-- What a corrected place is made of. -/
def segN (ks : List (Int × Int)) (X D : Int) (i : Nat) : Int := to1 ks i * (at1 ks (i + 1) - at1 ks i) * D + (X - at1 ks i * D) * (to1 ks (i + 1) - to1 ks i)
def segD (ks : List (Int × Int)) (D : Int) (i : Nat) : Int := (at1 ks (i + 1) - at1 ks i) * D
theorem mul_bd {a b A B : Int} (h1 : -A ≤ a) (h2 : a ≤ A) (h3 : -B ≤ b) (h4 : b ≤ B) : -(A * B) ≤ a * b ∧ a * b ≤ A * B := by
  have hA : 0 ≤ A := by omega
  have hB : 0 ≤ B := by omega
  have e1 : a.natAbs ≤ A.toNat := by omega
  have e2 : b.natAbs ≤ B.toNat := by omega
  have e3 := Nat.mul_le_mul e1 e2
  rw [← Int.natAbs_mul] at e3
  have e4 : ((A.toNat * B.toNat : Nat) : Int) = A * B := by rw [Int.natCast_mul, Int.toNat_of_nonneg hA, Int.toNat_of_nonneg hB]
  omega
end Go.Proofs.Ytbdcmdofmokoeaa
/-
  Layer 4: the corrected place, by the code.
-/
namespace Go.Proofs.Ytbdcmdofmokoeaa
open Go.RowKit
set_option linter.unusedVariables false
set_option linter.unusedSimpArgs false

set_option maxHeartbeats 1000000 in
theorem corF_any (i n c bb oo Bl Bx : Nat) (X D Q : Int) (hi : i + 1 < n) (hn : n ≤ 1000) (hq1 : -4294967296 ≤ Q * D) (hq2 : Q * D ≤ 4294967296) (w : World)
    (c0 : w.cell? ⟨Bx, 0, none⟩ = some (.int .i64 X)) (c1 : w.cell? ⟨Bx, 1, none⟩ = some (.int .i64 D)) (c2 : w.cell? ⟨Bl, 0, none⟩ = some (.slice (some ⟨bb, oo, none⟩) n c)) (c3 : w.cell? ⟨bb, oo + (i + 1) * 2, none⟩ = some (.int .i64 Q)) :
    Calls Try.prog 86 #[.int .i64 i, .pointer (some ⟨Bx, 0, none⟩), .pointer (some ⟨Bl, 0, none⟩)] w fun e w' => e = .returned (.bool (decide (X ≤ Q * D))) ∧ Below w.heap.size w w' := by
  have p0 : (0 : Int) ≤ (i : Int) := by omega
  have p1 : (i : Int) + 1 < (n : Int) := by omega
  have p2 : (0 : Int) ≤ (i : Int) + 1 := by omega
  have p3 : ((i : Int) + 1).toNat = i + 1 := by omega
  have hw1 : IntKind.i64.wrap ((i : Int) + 1) = (i : Int) + 1 := IntWalk.i64_in _ (by omega)
  have hw2 : IntKind.i64.wrap (Q * D) = Q * D := IntWalk.i64_in _ (by omega)
  go_enter Try.func86, Try.ntmps86
  go_wp2
  go_quiet (fail)
  clear hw1 hw2
  go_wp2
  go_ret
  exact ⟨rfl, by (repeat' (first | (with_reducible exact Below.refl _ _) | (with_reducible assumption) | (with_reducible refine belowThru ?_ (by assumption)) | (with_reducible refine belowAlloc ?_) | (with_reducible refine Below.setCell ?_ (by first | omega | (simp; done) | (simp; omega)) _) | (with_reducible refine Below.drew ?_) | (with_reducible refine below_drewN ?_ _)))⟩

/-- What holds of the region whichever operations have come up. -/
def CoversI (m c bb oo : Nat) (X D P Q : Int) (v : Bool) (w : World) (i13 i14 i15 i16 i17 i18 i19 i20 i21 i22 i23 i24 i25 i26 i27 i28 i29 i30 i31 i32 i33 i4 : Value) (b9 : Act) (L9 : Array Bool) (a9 : Act) (w9 : World) : Prop :=
  ∃ (gg0 gg1 gg2 gg3 gg4 gg5 gg6 gg7 gg8 gg9 gg10 gg11 gg12 gg13 gg14 gg15 gg16 gg17 gg18 gg19 gg20 gg21 : Bool) (x19 : Nat), L9 = #[gg0, gg1, gg2, gg3, gg4, gg5, gg6, gg7, gg8, gg9, gg10, gg11, gg12, gg13, gg14, gg15, gg16, gg17, gg18, gg19, gg20, gg21] ∧ a9 = ((((((((((((((((((((((b9).put (some 13) (cond gg0 (.slice (some ⟨bb, oo, none⟩) (m + 1) c) (i13))).put (some 14) (cond gg1 (.pointer (some ⟨bb, oo, none⟩)) (i14))).put (some 15) (cond gg2 (.pointer (some ⟨bb, oo, none⟩)) (i15))).put (some 16) (cond gg3 (.int .i64 P) (i16))).put (some 17) (cond gg4 (.pointer (some ⟨w.heap.size, 1, none⟩)) (i17))).put (some 18) (cond gg5 (.int .i64 D) (i18))).put (some 19) (cond gg6 (.int .i64 (P * D)) (i19))).put (some 20) (cond gg7 (.slice (some ⟨bb, oo, none⟩) (m + 1) c) (i20))).put (some 21) (cond gg8 (.slice (some ⟨bb, oo, none⟩) (m + 1) c) (i21))).put (some 22) (cond gg9 (.int .i64 ((m : Int) + 1)) (i22))).put (some 23) (cond gg10 (.int .i64 (m : Int)) (i23))).put (some 24) (cond gg11 (.pointer (some ⟨bb, oo + m * 2, none⟩)) (i24))).put (some 25) (cond gg12 (.pointer (some ⟨bb, oo + m * 2, none⟩)) (i25))).put (some 26) (cond gg13 (.int .i64 Q) (i26))).put (some 27) (cond gg14 (.pointer (some ⟨w.heap.size, 1, none⟩)) (i27))).put (some 28) (cond gg15 (.int .i64 D) (i28))).put (some 29) (cond gg16 (.int .i64 (Q * D)) (i29))).put (some 30) (cond gg17 (.pointer (some ⟨w.heap.size, 0, none⟩)) (i30))).put (some 31) (cond gg18 (.int .i64 X) (i31))).put (some 32) (cond gg19 (.slice (some ⟨x19, 0, none⟩) 1 1) (i32))).put (some 33) (cond gg20 (.bool v) (i33))).put (some 4) (cond gg21 (.bool v) (i4)) ∧ Blk w9 w.heap.size #[.int .i64 X, .int .i64 D] 23 ∧ Below w.heap.size w w9 ∧ (w.heap.size + 1) ≤ w9.heap.size ∧ (gg19 = true → Blk w9 x19 #[.int .i64 X] 3 ∧ (w.heap.size + 1) ≤ x19)

set_option maxRecDepth 100000 in
set_option maxHeartbeats 4000000 in
set_option linter.unusedSimpArgs false in
theorem covers_walk (m c bb oo : Nat) (X D P Q : Int) (v : Bool) (w : World) (hm : m ≤ 1000) (hD : D ≤ 1048576) (g1 : -4294967296 ≤ P * D) (g2 : P * D ≤ 4294967296) (g3 : -4294967296 ≤ Q * D) (g4 : Q * D ≤ 4294967296)
    (HC0 : Hid (w.cell? ⟨bb, oo, none⟩ = some (.int .i64 P))) (HC1 : Hid (w.cell? ⟨bb, oo + m * 2, none⟩ = some (.int .i64 Q)))
    (HK : Hid (∀ w, Calls Try.prog 76 #[.agg #[.int .i64 X, .int .i64 D]] w fun e w' => e = .returned (.int .i64 0) ∧ Below w.heap.size w w'))
    (HW : Hid (∀ (B : Nat) (w : World), w.cell? ⟨B, 0, none⟩ = some (.int .i64 X) → Calls Try.prog 54 #[.int .i64 (P * D), .int .i64 (Q * D), .slice (some ⟨B, 0, none⟩) 1 1] w fun e w' => e = .returned (.bool v) ∧ Below w.heap.size w w')) :
    Calls Try.prog 52 #[.slice (some ⟨bb, oo, none⟩) (m + 1) c, .agg #[.int .i64 X, .int .i64 D]] w fun e w' => e = .returned (.bool v) ∧ Below w.heap.size w w' := by
  have p0 : (0 : Int) ≤ (m : Int) := by omega
  have p1 : (m : Int) ≤ 1000 := by omega
  have p2 : (m : Int) < (m : Int) + 1 := by omega
  have hw0 : IntKind.i64.wrap (m : Int) = (m : Int) := IntWalk.i64_in _ (by omega)
  have hw1 : IntKind.i64.wrap (P * D) = P * D := IntWalk.i64_in _ (by omega)
  have hw2 : IntKind.i64.wrap (Q * D) = Q * D := IntWalk.i64_in _ (by omega)
  go_enter Try.func52, Try.ntmps52
  go_upto_region 3 with (go_at_call 76; (with_reducible refine (HK.out _).mono ?_); rintro e w1 ⟨rfl, hb⟩; (first | ((with_reducible have k0 := Blk.later hb (Blk.new rfl)); skip; obtain ⟨a0, b0⟩ := k0.read; have zl := k0.lt) | ((try (have zk := k0.lt; (first | ((with_reducible refine Blk.keepG hb k0 (fun h => ?_) ?_); (focus ((repeat' (first | (with_reducible assumption) | ((with_reducible refine Blk.new ?_); first | rfl | (simp; done)) | (with_reducible refine Blk.later (by assumption) ?_) | (with_reducible refine Blk.alloc ?_) | (with_reducible refine Blk.drewN ?_) | (with_reducible refine Blk.drew ?_) | (with_reducible refine Blk.other ?_ (by first | omega | (simp; done) | (simp; omega))))); done)); clear k0; intro k0) | (with_reducible replace k0 := Blk.later hb (Blk.set (Blk.set k0))) | (with_reducible replace k0 := Blk.later hb (Blk.set k0))); clear a0 b0; obtain ⟨a0, b0⟩ := k0.read; have zl := k0.lt)))); clear HK)
  refine wp_region_inv (CoversI m c bb oo X D P Q v w ?i13 ?i14 ?i15 ?i16 ?i17 ?i18 ?i19 ?i20 ?i21 ?i22 ?i23 ?i24 ?i25 ?i26 ?i27 ?i28 ?i29 ?i30 ?i31 ?i32 ?i33 ?i4) (by kernel_rfl) (by kernel_rfl) ?hsz ?hst ?hstep ?hfin
  case hst =>
    unfold CoversI
    refine ⟨false, false, false, false, false, false, false, false, false, false, false, false, false, false, false, false, false, false, false, false, false, false, 0, rfl, ?_, ?_, ?_, ?_, ?_⟩
    · first | (simp only [Act.put, List.setIfInBounds_toArray, List.set_cons_zero, List.set_cons_succ, cond_false]; done) | (simp only [Act.put, List.setIfInBounds_toArray, List.set_cons_zero, List.set_cons_succ, cond_false]; rfl)
    all_goals (first | (intro h; cases h; done) | ((repeat' (first | (with_reducible assumption) | ((with_reducible refine Blk.new ?_); first | rfl | (simp; done)) | (with_reducible refine Blk.later (by assumption) ?_) | (with_reducible refine Blk.alloc ?_) | (with_reducible refine Blk.drewN ?_) | (with_reducible refine Blk.drew ?_) | (with_reducible refine Blk.other ?_ (by first | omega | (simp; done) | (simp; omega))))); done) | ((repeat' (first | (with_reducible exact Below.refl _ _) | (with_reducible assumption) | (with_reducible refine belowThru ?_ (by assumption)) | (with_reducible refine belowAlloc ?_) | (with_reducible refine Below.setCell ?_ (by first | omega | (simp; done) | (simp; omega)) _) | (with_reducible refine Below.drew ?_) | (with_reducible refine below_drewN ?_ _))); done) | (simp only [cond_false]; (repeat' (first | (with_reducible assumption) | ((with_reducible refine Blk.new ?_); first | rfl | (simp; done)) | (with_reducible refine Blk.later (by assumption) ?_) | (with_reducible refine Blk.alloc ?_) | (with_reducible refine Blk.drewN ?_) | (with_reducible refine Blk.drew ?_) | (with_reducible refine Blk.other ?_ (by first | omega | (simp; done) | (simp; omega))))); done) | (simp only [World.size_drew]; omega) | (simp only [World.size_drew] at *; omega) | (simp; done) | (simp; omega))
  case hsz =>
    intro L a w9 h
    obtain ⟨gg0, gg1, gg2, gg3, gg4, gg5, gg6, gg7, gg8, gg9, gg10, gg11, gg12, gg13, gg14, gg15, gg16, gg17, gg18, gg19, gg20, gg21, x19, rfl, -⟩ := h; rfl
  case hstep =>
    intro L a w9 hI i hi
    obtain ⟨gg0, gg1, gg2, gg3, gg4, gg5, gg6, gg7, gg8, gg9, gg10, gg11, gg12, gg13, gg14, gg15, gg16, gg17, gg18, gg19, gg20, gg21, x19, rfl, rfl, fb0, fB, fL, f19⟩ := hI
    obtain ⟨hi1, hi2, o, ho, hall⟩ := inv_mem hi
    clear hi
    rcases i with _ | _ | _ | _ | _ | _ | _ | _ | _ | _ | _ | _ | _ | _ | _ | _ | _ | _ | _ | _ | _ | _ | i
    · have ge0 : gg0 = false := hi2
      clear hall hi1 hi2
      subst ge0
      have ho2 := ho
      simp only [List.getElem?_toArray, List.getElem?_cons_zero, List.getElem?_cons_succ] at ho2
      have ho3 := Option.some.inj ho2; clear ho2; subst ho3
      obtain ⟨ba0, bb0⟩ := fb0.read; have bl0 := fb0.lt
      simp only [Act.put, List.setIfInBounds_toArray, List.set_cons_zero, List.set_cons_succ]
      simp only [cond_true, cond_false]
      refine inv_op ho (by kernel_rfl) (fun K hK => ?_)
      clear ho
      go_simp
      refine hK.out _ _ ?_
      unfold CoversI
      refine ⟨true, gg1, gg2, gg3, gg4, gg5, gg6, gg7, gg8, gg9, gg10, gg11, gg12, gg13, gg14, gg15, gg16, gg17, gg18, gg19, gg20, gg21, x19, rfl, by simp only [Act.put, List.setIfInBounds_toArray, List.set_cons_zero, List.set_cons_succ, cond_true, cond_false, Bool.cond_self], ?_, ?_, ?_, ?_⟩
      · exact fb0
      · exact fB
      · exact fL
      · exact f19
    · have ge1 : gg1 = false := hi2
      have ge0 : gg0 = true := inv_dep ho hall 0 (by kernel_rfl)
      clear hall hi1 hi2
      subst ge1 ge0
      have ho2 := ho
      simp only [List.getElem?_toArray, List.getElem?_cons_zero, List.getElem?_cons_succ] at ho2
      have ho3 := Option.some.inj ho2; clear ho2; subst ho3
      obtain ⟨ba0, bb0⟩ := fb0.read; have bl0 := fb0.lt
      simp only [Act.put, List.setIfInBounds_toArray, List.set_cons_zero, List.set_cons_succ]
      simp only [cond_true, cond_false]
      refine inv_op ho (by kernel_rfl) (fun K hK => ?_)
      clear ho
      go_simp
      refine hK.out _ _ ?_
      unfold CoversI
      refine ⟨true, true, gg2, gg3, gg4, gg5, gg6, gg7, gg8, gg9, gg10, gg11, gg12, gg13, gg14, gg15, gg16, gg17, gg18, gg19, gg20, gg21, x19, rfl, by simp only [Act.put, List.setIfInBounds_toArray, List.set_cons_zero, List.set_cons_succ, cond_true, cond_false, Bool.cond_self], ?_, ?_, ?_, ?_⟩
      · exact fb0
      · exact fB
      · exact fL
      · exact f19
    · have ge2 : gg2 = false := hi2
      have ge1 : gg1 = true := inv_dep ho hall 1 (by kernel_rfl)
      clear hall hi1 hi2
      subst ge2 ge1
      have ho2 := ho
      simp only [List.getElem?_toArray, List.getElem?_cons_zero, List.getElem?_cons_succ] at ho2
      have ho3 := Option.some.inj ho2; clear ho2; subst ho3
      obtain ⟨ba0, bb0⟩ := fb0.read; have bl0 := fb0.lt
      simp only [Act.put, List.setIfInBounds_toArray, List.set_cons_zero, List.set_cons_succ]
      simp only [cond_true, cond_false]
      refine inv_op ho (by kernel_rfl) (fun K hK => ?_)
      clear ho
      go_simp
      refine hK.out _ _ ?_
      unfold CoversI
      refine ⟨gg0, true, true, gg3, gg4, gg5, gg6, gg7, gg8, gg9, gg10, gg11, gg12, gg13, gg14, gg15, gg16, gg17, gg18, gg19, gg20, gg21, x19, rfl, by simp only [Act.put, List.setIfInBounds_toArray, List.set_cons_zero, List.set_cons_succ, cond_true, cond_false, Bool.cond_self], ?_, ?_, ?_, ?_⟩
      · exact fb0
      · exact fB
      · exact fL
      · exact f19
    · have ge3 : gg3 = false := hi2
      have ge2 : gg2 = true := inv_dep ho hall 2 (by kernel_rfl)
      clear hall hi1 hi2
      subst ge3 ge2
      have ho2 := ho
      simp only [List.getElem?_toArray, List.getElem?_cons_zero, List.getElem?_cons_succ] at ho2
      have ho3 := Option.some.inj ho2; clear ho2; subst ho3
      obtain ⟨ba0, bb0⟩ := fb0.read; have bl0 := fb0.lt
      have ce := cell_later fB HC0.out
      simp only [Act.put, List.setIfInBounds_toArray, List.set_cons_zero, List.set_cons_succ]
      simp only [cond_true, cond_false]
      refine inv_op ho (by kernel_rfl) (fun K hK => ?_)
      clear ho
      go_simp
      refine hK.out _ _ ?_
      unfold CoversI
      refine ⟨gg0, gg1, true, true, gg4, gg5, gg6, gg7, gg8, gg9, gg10, gg11, gg12, gg13, gg14, gg15, gg16, gg17, gg18, gg19, gg20, gg21, x19, rfl, by simp only [Act.put, List.setIfInBounds_toArray, List.set_cons_zero, List.set_cons_succ, cond_true, cond_false, Bool.cond_self], ?_, ?_, ?_, ?_⟩
      · exact fb0
      · exact fB
      · exact fL
      · exact f19
    · have ge4 : gg4 = false := hi2
      clear hall hi1 hi2
      subst ge4
      have ho2 := ho
      simp only [List.getElem?_toArray, List.getElem?_cons_zero, List.getElem?_cons_succ] at ho2
      have ho3 := Option.some.inj ho2; clear ho2; subst ho3
      obtain ⟨ba0, bb0⟩ := fb0.read; have bl0 := fb0.lt
      simp only [Act.put, List.setIfInBounds_toArray, List.set_cons_zero, List.set_cons_succ]
      simp only [cond_true, cond_false]
      refine inv_op ho (by kernel_rfl) (fun K hK => ?_)
      clear ho
      go_simp
      refine hK.out _ _ ?_
      unfold CoversI
      refine ⟨gg0, gg1, gg2, gg3, true, gg5, gg6, gg7, gg8, gg9, gg10, gg11, gg12, gg13, gg14, gg15, gg16, gg17, gg18, gg19, gg20, gg21, x19, rfl, by simp only [Act.put, List.setIfInBounds_toArray, List.set_cons_zero, List.set_cons_succ, cond_true, cond_false, Bool.cond_self], ?_, ?_, ?_, ?_⟩
      · exact fb0
      · exact fB
      · exact fL
      · exact f19
    · have ge5 : gg5 = false := hi2
      have ge4 : gg4 = true := inv_dep ho hall 4 (by kernel_rfl)
      clear hall hi1 hi2
      subst ge5 ge4
      have ho2 := ho
      simp only [List.getElem?_toArray, List.getElem?_cons_zero, List.getElem?_cons_succ] at ho2
      have ho3 := Option.some.inj ho2; clear ho2; subst ho3
      obtain ⟨ba0, bb0⟩ := fb0.read; have bl0 := fb0.lt
      simp only [Act.put, List.setIfInBounds_toArray, List.set_cons_zero, List.set_cons_succ]
      simp only [cond_true, cond_false]
      refine inv_op ho (by kernel_rfl) (fun K hK => ?_)
      clear ho
      go_simp
      refine hK.out _ _ ?_
      unfold CoversI
      refine ⟨gg0, gg1, gg2, gg3, true, true, gg6, gg7, gg8, gg9, gg10, gg11, gg12, gg13, gg14, gg15, gg16, gg17, gg18, gg19, gg20, gg21, x19, rfl, by simp only [Act.put, List.setIfInBounds_toArray, List.set_cons_zero, List.set_cons_succ, cond_true, cond_false, Bool.cond_self], ?_, ?_, ?_, ?_⟩
      · exact fb0
      · exact fB
      · exact fL
      · exact f19
    · have ge6 : gg6 = false := hi2
      have ge3 : gg3 = true := inv_dep ho hall 3 (by kernel_rfl)
      have ge5 : gg5 = true := inv_dep ho hall 5 (by kernel_rfl)
      clear hall hi1 hi2
      subst ge6 ge3 ge5
      have ho2 := ho
      simp only [List.getElem?_toArray, List.getElem?_cons_zero, List.getElem?_cons_succ] at ho2
      have ho3 := Option.some.inj ho2; clear ho2; subst ho3
      obtain ⟨ba0, bb0⟩ := fb0.read; have bl0 := fb0.lt
      simp only [Act.put, List.setIfInBounds_toArray, List.set_cons_zero, List.set_cons_succ]
      simp only [cond_true, cond_false]
      refine inv_op ho (by kernel_rfl) (fun K hK => ?_)
      clear ho
      go_simp
      refine hK.out _ _ ?_
      unfold CoversI
      refine ⟨gg0, gg1, gg2, true, gg4, true, true, gg7, gg8, gg9, gg10, gg11, gg12, gg13, gg14, gg15, gg16, gg17, gg18, gg19, gg20, gg21, x19, rfl, by simp only [Act.put, List.setIfInBounds_toArray, List.set_cons_zero, List.set_cons_succ, cond_true, cond_false, Bool.cond_self], ?_, ?_, ?_, ?_⟩
      · exact fb0
      · exact fB
      · exact fL
      · exact f19
    · have ge7 : gg7 = false := hi2
      clear hall hi1 hi2
      subst ge7
      have ho2 := ho
      simp only [List.getElem?_toArray, List.getElem?_cons_zero, List.getElem?_cons_succ] at ho2
      have ho3 := Option.some.inj ho2; clear ho2; subst ho3
      obtain ⟨ba0, bb0⟩ := fb0.read; have bl0 := fb0.lt
      simp only [Act.put, List.setIfInBounds_toArray, List.set_cons_zero, List.set_cons_succ]
      simp only [cond_true, cond_false]
      refine inv_op ho (by kernel_rfl) (fun K hK => ?_)
      clear ho
      go_simp
      refine hK.out _ _ ?_
      unfold CoversI
      refine ⟨gg0, gg1, gg2, gg3, gg4, gg5, gg6, true, gg8, gg9, gg10, gg11, gg12, gg13, gg14, gg15, gg16, gg17, gg18, gg19, gg20, gg21, x19, rfl, by simp only [Act.put, List.setIfInBounds_toArray, List.set_cons_zero, List.set_cons_succ, cond_true, cond_false, Bool.cond_self], ?_, ?_, ?_, ?_⟩
      · exact fb0
      · exact fB
      · exact fL
      · exact f19
    · have ge8 : gg8 = false := hi2
      clear hall hi1 hi2
      subst ge8
      have ho2 := ho
      simp only [List.getElem?_toArray, List.getElem?_cons_zero, List.getElem?_cons_succ] at ho2
      have ho3 := Option.some.inj ho2; clear ho2; subst ho3
      obtain ⟨ba0, bb0⟩ := fb0.read; have bl0 := fb0.lt
      simp only [Act.put, List.setIfInBounds_toArray, List.set_cons_zero, List.set_cons_succ]
      simp only [cond_true, cond_false]
      refine inv_op ho (by kernel_rfl) (fun K hK => ?_)
      clear ho
      go_simp
      refine hK.out _ _ ?_
      unfold CoversI
      refine ⟨gg0, gg1, gg2, gg3, gg4, gg5, gg6, gg7, true, gg9, gg10, gg11, gg12, gg13, gg14, gg15, gg16, gg17, gg18, gg19, gg20, gg21, x19, rfl, by simp only [Act.put, List.setIfInBounds_toArray, List.set_cons_zero, List.set_cons_succ, cond_true, cond_false, Bool.cond_self], ?_, ?_, ?_, ?_⟩
      · exact fb0
      · exact fB
      · exact fL
      · exact f19
    · have ge9 : gg9 = false := hi2
      have ge8 : gg8 = true := inv_dep ho hall 8 (by kernel_rfl)
      clear hall hi1 hi2
      subst ge9 ge8
      have ho2 := ho
      simp only [List.getElem?_toArray, List.getElem?_cons_zero, List.getElem?_cons_succ] at ho2
      have ho3 := Option.some.inj ho2; clear ho2; subst ho3
      obtain ⟨ba0, bb0⟩ := fb0.read; have bl0 := fb0.lt
      simp only [Act.put, List.setIfInBounds_toArray, List.set_cons_zero, List.set_cons_succ]
      simp only [cond_true, cond_false]
      refine inv_op ho (by kernel_rfl) (fun K hK => ?_)
      clear ho
      go_simp
      refine hK.out _ _ ?_
      unfold CoversI
      refine ⟨gg0, gg1, gg2, gg3, gg4, gg5, gg6, gg7, true, true, gg10, gg11, gg12, gg13, gg14, gg15, gg16, gg17, gg18, gg19, gg20, gg21, x19, rfl, by simp only [Act.put, List.setIfInBounds_toArray, List.set_cons_zero, List.set_cons_succ, cond_true, cond_false, Bool.cond_self], ?_, ?_, ?_, ?_⟩
      · exact fb0
      · exact fB
      · exact fL
      · exact f19
    · have ge10 : gg10 = false := hi2
      have ge9 : gg9 = true := inv_dep ho hall 9 (by kernel_rfl)
      clear hall hi1 hi2
      subst ge10 ge9
      have ho2 := ho
      simp only [List.getElem?_toArray, List.getElem?_cons_zero, List.getElem?_cons_succ] at ho2
      have ho3 := Option.some.inj ho2; clear ho2; subst ho3
      obtain ⟨ba0, bb0⟩ := fb0.read; have bl0 := fb0.lt
      simp only [Act.put, List.setIfInBounds_toArray, List.set_cons_zero, List.set_cons_succ]
      simp only [cond_true, cond_false]
      refine inv_op ho (by kernel_rfl) (fun K hK => ?_)
      clear ho
      go_simp
      refine hK.out _ _ ?_
      unfold CoversI
      refine ⟨gg0, gg1, gg2, gg3, gg4, gg5, gg6, gg7, gg8, true, true, gg11, gg12, gg13, gg14, gg15, gg16, gg17, gg18, gg19, gg20, gg21, x19, rfl, by simp only [Act.put, List.setIfInBounds_toArray, List.set_cons_zero, List.set_cons_succ, cond_true, cond_false, Bool.cond_self], ?_, ?_, ?_, ?_⟩
      · exact fb0
      · exact fB
      · exact fL
      · exact f19
    · have ge11 : gg11 = false := hi2
      have ge7 : gg7 = true := inv_dep ho hall 7 (by kernel_rfl)
      have ge10 : gg10 = true := inv_dep ho hall 10 (by kernel_rfl)
      clear hall hi1 hi2
      subst ge11 ge7 ge10
      have ho2 := ho
      simp only [List.getElem?_toArray, List.getElem?_cons_zero, List.getElem?_cons_succ] at ho2
      have ho3 := Option.some.inj ho2; clear ho2; subst ho3
      obtain ⟨ba0, bb0⟩ := fb0.read; have bl0 := fb0.lt
      simp only [Act.put, List.setIfInBounds_toArray, List.set_cons_zero, List.set_cons_succ]
      simp only [cond_true, cond_false]
      refine inv_op ho (by kernel_rfl) (fun K hK => ?_)
      clear ho
      go_simp
      refine hK.out _ _ ?_
      unfold CoversI
      refine ⟨gg0, gg1, gg2, gg3, gg4, gg5, gg6, true, gg8, gg9, true, true, gg12, gg13, gg14, gg15, gg16, gg17, gg18, gg19, gg20, gg21, x19, rfl, by simp only [Act.put, List.setIfInBounds_toArray, List.set_cons_zero, List.set_cons_succ, cond_true, cond_false, Bool.cond_self], ?_, ?_, ?_, ?_⟩
      · exact fb0
      · exact fB
      · exact fL
      · exact f19
    · have ge12 : gg12 = false := hi2
      have ge11 : gg11 = true := inv_dep ho hall 11 (by kernel_rfl)
      clear hall hi1 hi2
      subst ge12 ge11
      have ho2 := ho
      simp only [List.getElem?_toArray, List.getElem?_cons_zero, List.getElem?_cons_succ] at ho2
      have ho3 := Option.some.inj ho2; clear ho2; subst ho3
      obtain ⟨ba0, bb0⟩ := fb0.read; have bl0 := fb0.lt
      simp only [Act.put, List.setIfInBounds_toArray, List.set_cons_zero, List.set_cons_succ]
      simp only [cond_true, cond_false]
      refine inv_op ho (by kernel_rfl) (fun K hK => ?_)
      clear ho
      go_simp
      refine hK.out _ _ ?_
      unfold CoversI
      refine ⟨gg0, gg1, gg2, gg3, gg4, gg5, gg6, gg7, gg8, gg9, gg10, true, true, gg13, gg14, gg15, gg16, gg17, gg18, gg19, gg20, gg21, x19, rfl, by simp only [Act.put, List.setIfInBounds_toArray, List.set_cons_zero, List.set_cons_succ, cond_true, cond_false, Bool.cond_self], ?_, ?_, ?_, ?_⟩
      · exact fb0
      · exact fB
      · exact fL
      · exact f19
    · have ge13 : gg13 = false := hi2
      have ge12 : gg12 = true := inv_dep ho hall 12 (by kernel_rfl)
      clear hall hi1 hi2
      subst ge13 ge12
      have ho2 := ho
      simp only [List.getElem?_toArray, List.getElem?_cons_zero, List.getElem?_cons_succ] at ho2
      have ho3 := Option.some.inj ho2; clear ho2; subst ho3
      obtain ⟨ba0, bb0⟩ := fb0.read; have bl0 := fb0.lt
      have ce := cell_later fB HC1.out
      simp only [Act.put, List.setIfInBounds_toArray, List.set_cons_zero, List.set_cons_succ]
      simp only [cond_true, cond_false]
      refine inv_op ho (by kernel_rfl) (fun K hK => ?_)
      clear ho
      go_simp
      refine hK.out _ _ ?_
      unfold CoversI
      refine ⟨gg0, gg1, gg2, gg3, gg4, gg5, gg6, gg7, gg8, gg9, gg10, gg11, true, true, gg14, gg15, gg16, gg17, gg18, gg19, gg20, gg21, x19, rfl, by simp only [Act.put, List.setIfInBounds_toArray, List.set_cons_zero, List.set_cons_succ, cond_true, cond_false, Bool.cond_self], ?_, ?_, ?_, ?_⟩
      · exact fb0
      · exact fB
      · exact fL
      · exact f19
    · have ge14 : gg14 = false := hi2
      clear hall hi1 hi2
      subst ge14
      have ho2 := ho
      simp only [List.getElem?_toArray, List.getElem?_cons_zero, List.getElem?_cons_succ] at ho2
      have ho3 := Option.some.inj ho2; clear ho2; subst ho3
      obtain ⟨ba0, bb0⟩ := fb0.read; have bl0 := fb0.lt
      simp only [Act.put, List.setIfInBounds_toArray, List.set_cons_zero, List.set_cons_succ]
      simp only [cond_true, cond_false]
      refine inv_op ho (by kernel_rfl) (fun K hK => ?_)
      clear ho
      go_simp
      refine hK.out _ _ ?_
      unfold CoversI
      refine ⟨gg0, gg1, gg2, gg3, gg4, gg5, gg6, gg7, gg8, gg9, gg10, gg11, gg12, gg13, true, gg15, gg16, gg17, gg18, gg19, gg20, gg21, x19, rfl, by simp only [Act.put, List.setIfInBounds_toArray, List.set_cons_zero, List.set_cons_succ, cond_true, cond_false, Bool.cond_self], ?_, ?_, ?_, ?_⟩
      · exact fb0
      · exact fB
      · exact fL
      · exact f19
    · have ge15 : gg15 = false := hi2
      have ge14 : gg14 = true := inv_dep ho hall 14 (by kernel_rfl)
      clear hall hi1 hi2
      subst ge15 ge14
      have ho2 := ho
      simp only [List.getElem?_toArray, List.getElem?_cons_zero, List.getElem?_cons_succ] at ho2
      have ho3 := Option.some.inj ho2; clear ho2; subst ho3
      obtain ⟨ba0, bb0⟩ := fb0.read; have bl0 := fb0.lt
      simp only [Act.put, List.setIfInBounds_toArray, List.set_cons_zero, List.set_cons_succ]
      simp only [cond_true, cond_false]
      refine inv_op ho (by kernel_rfl) (fun K hK => ?_)
      clear ho
      go_simp
      refine hK.out _ _ ?_
      unfold CoversI
      refine ⟨gg0, gg1, gg2, gg3, gg4, gg5, gg6, gg7, gg8, gg9, gg10, gg11, gg12, gg13, true, true, gg16, gg17, gg18, gg19, gg20, gg21, x19, rfl, by simp only [Act.put, List.setIfInBounds_toArray, List.set_cons_zero, List.set_cons_succ, cond_true, cond_false, Bool.cond_self], ?_, ?_, ?_, ?_⟩
      · exact fb0
      · exact fB
      · exact fL
      · exact f19
    · have ge16 : gg16 = false := hi2
      have ge13 : gg13 = true := inv_dep ho hall 13 (by kernel_rfl)
      have ge15 : gg15 = true := inv_dep ho hall 15 (by kernel_rfl)
      clear hall hi1 hi2
      subst ge16 ge13 ge15
      have ho2 := ho
      simp only [List.getElem?_toArray, List.getElem?_cons_zero, List.getElem?_cons_succ] at ho2
      have ho3 := Option.some.inj ho2; clear ho2; subst ho3
      obtain ⟨ba0, bb0⟩ := fb0.read; have bl0 := fb0.lt
      simp only [Act.put, List.setIfInBounds_toArray, List.set_cons_zero, List.set_cons_succ]
      simp only [cond_true, cond_false]
      refine inv_op ho (by kernel_rfl) (fun K hK => ?_)
      clear ho
      go_simp
      refine hK.out _ _ ?_
      unfold CoversI
      refine ⟨gg0, gg1, gg2, gg3, gg4, gg5, gg6, gg7, gg8, gg9, gg10, gg11, gg12, true, gg14, true, true, gg17, gg18, gg19, gg20, gg21, x19, rfl, by simp only [Act.put, List.setIfInBounds_toArray, List.set_cons_zero, List.set_cons_succ, cond_true, cond_false, Bool.cond_self], ?_, ?_, ?_, ?_⟩
      · exact fb0
      · exact fB
      · exact fL
      · exact f19
    · have ge17 : gg17 = false := hi2
      clear hall hi1 hi2
      subst ge17
      have ho2 := ho
      simp only [List.getElem?_toArray, List.getElem?_cons_zero, List.getElem?_cons_succ] at ho2
      have ho3 := Option.some.inj ho2; clear ho2; subst ho3
      obtain ⟨ba0, bb0⟩ := fb0.read; have bl0 := fb0.lt
      simp only [Act.put, List.setIfInBounds_toArray, List.set_cons_zero, List.set_cons_succ]
      simp only [cond_true, cond_false]
      refine inv_op ho (by kernel_rfl) (fun K hK => ?_)
      clear ho
      go_simp
      refine hK.out _ _ ?_
      unfold CoversI
      refine ⟨gg0, gg1, gg2, gg3, gg4, gg5, gg6, gg7, gg8, gg9, gg10, gg11, gg12, gg13, gg14, gg15, gg16, true, gg18, gg19, gg20, gg21, x19, rfl, by simp only [Act.put, List.setIfInBounds_toArray, List.set_cons_zero, List.set_cons_succ, cond_true, cond_false, Bool.cond_self], ?_, ?_, ?_, ?_⟩
      · exact fb0
      · exact fB
      · exact fL
      · exact f19
    · have ge18 : gg18 = false := hi2
      have ge17 : gg17 = true := inv_dep ho hall 17 (by kernel_rfl)
      clear hall hi1 hi2
      subst ge18 ge17
      have ho2 := ho
      simp only [List.getElem?_toArray, List.getElem?_cons_zero, List.getElem?_cons_succ] at ho2
      have ho3 := Option.some.inj ho2; clear ho2; subst ho3
      obtain ⟨ba0, bb0⟩ := fb0.read; have bl0 := fb0.lt
      simp only [Act.put, List.setIfInBounds_toArray, List.set_cons_zero, List.set_cons_succ]
      simp only [cond_true, cond_false]
      refine inv_op ho (by kernel_rfl) (fun K hK => ?_)
      clear ho
      go_simp
      refine hK.out _ _ ?_
      unfold CoversI
      refine ⟨gg0, gg1, gg2, gg3, gg4, gg5, gg6, gg7, gg8, gg9, gg10, gg11, gg12, gg13, gg14, gg15, gg16, true, true, gg19, gg20, gg21, x19, rfl, by simp only [Act.put, List.setIfInBounds_toArray, List.set_cons_zero, List.set_cons_succ, cond_true, cond_false, Bool.cond_self], ?_, ?_, ?_, ?_⟩
      · exact fb0
      · exact fB
      · exact fL
      · exact f19
    · have ge19 : gg19 = false := hi2
      have ge18 : gg18 = true := inv_dep ho hall 18 (by kernel_rfl)
      clear hall hi1 hi2
      subst ge19 ge18
      have ho2 := ho
      simp only [List.getElem?_toArray, List.getElem?_cons_zero, List.getElem?_cons_succ] at ho2
      have ho3 := Option.some.inj ho2; clear ho2; subst ho3
      obtain ⟨ba0, bb0⟩ := fb0.read; have bl0 := fb0.lt
      simp only [Act.put, List.setIfInBounds_toArray, List.set_cons_zero, List.set_cons_succ]
      simp only [cond_true, cond_false]
      refine inv_op ho (by kernel_rfl) (fun K hK => ?_)
      clear ho
      go_simp
      refine hK.out _ _ ?_
      unfold CoversI
      refine ⟨gg0, gg1, gg2, gg3, gg4, gg5, gg6, gg7, gg8, gg9, gg10, gg11, gg12, gg13, gg14, gg15, gg16, gg17, true, true, gg20, gg21, w9.heap.size, rfl, by simp only [Act.put, List.setIfInBounds_toArray, List.set_cons_zero, List.set_cons_succ, cond_true, cond_false, Bool.cond_self], ?_, ?_, ?_, ?_⟩
      · exact fb0.alloc
      · exact belowAlloc fB
      · simp only [World.size_alloc]; omega
      · intro _; exact ⟨Blk.new rfl, fL⟩
    · have ge20 : gg20 = false := hi2
      have ge6 : gg6 = true := inv_dep ho hall 6 (by kernel_rfl)
      have ge16 : gg16 = true := inv_dep ho hall 16 (by kernel_rfl)
      have ge19 : gg19 = true := inv_dep ho hall 19 (by kernel_rfl)
      clear hall hi1 hi2
      subst ge20 ge6 ge16 ge19
      have ho2 := ho
      simp only [List.getElem?_toArray, List.getElem?_cons_zero, List.getElem?_cons_succ] at ho2
      have ho3 := Option.some.inj ho2; clear ho2; subst ho3
      obtain ⟨p19, q19⟩ := f19 rfl
      obtain ⟨ra19, rb19⟩ := p19.read
      have rl19 := p19.lt
      obtain ⟨ba0, bb0⟩ := fb0.read; have bl0 := fb0.lt
      simp only [Act.put, List.setIfInBounds_toArray, List.set_cons_zero, List.set_cons_succ]
      simp only [cond_true, cond_false]
      refine inv_op ho (by kernel_rfl) (fun K hK => ?_)
      clear ho
      go_simp
      go_at_call 54; (with_reducible refine (HW.out _ _ (by rw [ra19]; simp)).mono ?_); rintro e w8 ⟨rfl, hb⟩
      refine hK.out _ _ ?_
      unfold CoversI
      refine ⟨gg0, gg1, gg2, gg3, gg4, gg5, true, gg7, gg8, gg9, gg10, gg11, gg12, gg13, gg14, gg15, true, gg17, gg18, true, true, gg21, x19, rfl, by simp only [Act.put, List.setIfInBounds_toArray, List.set_cons_zero, List.set_cons_succ, cond_true, cond_false, Bool.cond_self], ?_, ?_, ?_, ?_⟩
      · exact Blk.later hb fb0
      · exact belowThru fB hb
      · have := hb.size; omega
      · intro h; obtain ⟨p, q⟩ := f19 h; exact ⟨Blk.later hb p, q⟩
    · have ge21 : gg21 = false := hi2
      have ge20 : gg20 = true := inv_dep ho hall 20 (by kernel_rfl)
      clear hall hi1 hi2
      subst ge21 ge20
      have ho2 := ho
      simp only [List.getElem?_toArray, List.getElem?_cons_zero, List.getElem?_cons_succ] at ho2
      have ho3 := Option.some.inj ho2; clear ho2; subst ho3
      obtain ⟨ba0, bb0⟩ := fb0.read; have bl0 := fb0.lt
      simp only [Act.put, List.setIfInBounds_toArray, List.set_cons_zero, List.set_cons_succ]
      simp only [cond_true, cond_false]
      refine inv_op ho (by kernel_rfl) (fun K hK => ?_)
      clear ho
      go_simp
      refine hK.out _ _ ?_
      unfold CoversI
      refine ⟨gg0, gg1, gg2, gg3, gg4, gg5, gg6, gg7, gg8, gg9, gg10, gg11, gg12, gg13, gg14, gg15, gg16, gg17, gg18, gg19, true, true, x19, rfl, by simp only [Act.put, List.setIfInBounds_toArray, List.set_cons_zero, List.set_cons_succ, cond_true, cond_false, Bool.cond_self], ?_, ?_, ?_, ?_⟩
      · exact fb0
      · exact fB
      · exact fL
      · exact f19
    · exfalso; simp at hi1; omega
  case hfin =>
    intro a w9 hI
    obtain ⟨gg0, gg1, gg2, gg3, gg4, gg5, gg6, gg7, gg8, gg9, gg10, gg11, gg12, gg13, gg14, gg15, gg16, gg17, gg18, gg19, gg20, gg21, x19, hL, rfl, fb0, fB, fL, f19⟩ := hI
    have hL2 : #[true, true, true, true, true, true, true, true, true, true, true, true, true, true, true, true, true, true, true, true, true, true] = #[gg0, gg1, gg2, gg3, gg4, gg5, gg6, gg7, gg8, gg9, gg10, gg11, gg12, gg13, gg14, gg15, gg16, gg17, gg18, gg19, gg20, gg21] := hL
    cases hL2
    obtain ⟨p19, q19⟩ := f19 rfl
    clear f19
    simp only [Act.put, List.setIfInBounds_toArray, List.set_cons_zero, List.set_cons_succ]
    simp only [cond_true]
    go_wp2_with fail
    go_ret
    exact ⟨rfl, fB⟩

set_option maxHeartbeats 1000000 in
theorem covers_bad (a : Option Addr) (n c : Nat) (X D : Int) (w : World)
    (HK : Hid (∀ w, Calls Try.prog 76 #[.agg #[.int .i64 X, .int .i64 D]] w fun e w' => e = .returned (.int .i64 8) ∧ Below w.heap.size w w')) :
    Calls Try.prog 52 #[.slice a n c, .agg #[.int .i64 X, .int .i64 D]] w fun e w' => e = .returned (.bool false) ∧ Below w.heap.size w w' := by
  go_enter Try.func52, Try.ntmps52
  go_wp2_with (go_at_call 76; (with_reducible refine (HK.out _).mono ?_); rintro e w1 ⟨rfl, hb⟩; (first | ((with_reducible have k0 := Blk.later hb (Blk.new rfl)); skip; obtain ⟨a0, b0⟩ := k0.read; have zl := k0.lt) | ((try (have zk := k0.lt; (first | ((with_reducible refine Blk.keepG hb k0 (fun h => ?_) ?_); (focus ((repeat' (first | (with_reducible assumption) | ((with_reducible refine Blk.new ?_); first | rfl | (simp; done)) | (with_reducible refine Blk.later (by assumption) ?_) | (with_reducible refine Blk.alloc ?_) | (with_reducible refine Blk.drewN ?_) | (with_reducible refine Blk.drew ?_) | (with_reducible refine Blk.other ?_ (by first | omega | (simp; done) | (simp; omega))))); done)); clear k0; intro k0) | (with_reducible replace k0 := Blk.later hb (Blk.set (Blk.set k0))) | (with_reducible replace k0 := Blk.later hb (Blk.set k0))); clear a0 b0; obtain ⟨a0, b0⟩ := k0.read; have zl := k0.lt)))); clear HK)
  go_ret
  exact ⟨rfl, by (repeat' (first | (with_reducible exact Below.refl _ _) | (with_reducible assumption) | (with_reducible refine belowThru ?_ (by assumption)) | (with_reducible refine belowAlloc ?_) | (with_reducible refine Below.setCell ?_ (by first | omega | (simp; done) | (simp; omega)) _) | (with_reducible refine Below.drew ?_) | (with_reducible refine below_drewN ?_ _)))⟩
set_option maxHeartbeats 1000000 in
theorem covers_den (a : Option Addr) (n c : Nat) (X D : Int) (w : World) (hD : 1048576 < D)
    (HK : Hid (∀ w, Calls Try.prog 76 #[.agg #[.int .i64 X, .int .i64 D]] w fun e w' => e = .returned (.int .i64 0) ∧ Below w.heap.size w w')) :
    Calls Try.prog 52 #[.slice a n c, .agg #[.int .i64 X, .int .i64 D]] w fun e w' => e = .returned (.bool false) ∧ Below w.heap.size w w' := by
  go_enter Try.func52, Try.ntmps52
  go_wp2_with (go_at_call 76; (with_reducible refine (HK.out _).mono ?_); rintro e w1 ⟨rfl, hb⟩; (first | ((with_reducible have k0 := Blk.later hb (Blk.new rfl)); skip; obtain ⟨a0, b0⟩ := k0.read; have zl := k0.lt) | ((try (have zk := k0.lt; (first | ((with_reducible refine Blk.keepG hb k0 (fun h => ?_) ?_); (focus ((repeat' (first | (with_reducible assumption) | ((with_reducible refine Blk.new ?_); first | rfl | (simp; done)) | (with_reducible refine Blk.later (by assumption) ?_) | (with_reducible refine Blk.alloc ?_) | (with_reducible refine Blk.drewN ?_) | (with_reducible refine Blk.drew ?_) | (with_reducible refine Blk.other ?_ (by first | omega | (simp; done) | (simp; omega))))); done)); clear k0; intro k0) | (with_reducible replace k0 := Blk.later hb (Blk.set (Blk.set k0))) | (with_reducible replace k0 := Blk.later hb (Blk.set k0))); clear a0 b0; obtain ⟨a0, b0⟩ := k0.read; have zl := k0.lt)))); clear HK)
  go_ret
  exact ⟨rfl, by (repeat' (first | (with_reducible exact Below.refl _ _) | (with_reducible assumption) | (with_reducible refine belowThru ?_ (by assumption)) | (with_reducible refine belowAlloc ?_) | (with_reducible refine Below.setCell ?_ (by first | omega | (simp; done) | (simp; omega)) _) | (with_reducible refine Below.drew ?_) | (with_reducible refine below_drewN ?_ _)))⟩

/-- What holds of the region whichever operations have come up. -/
def CorrI (i m c bb oo : Nat) (X D P Q S T : Int) (w : World) (i17 i18 i19 i20 i21 i22 i23 i24 i25 i6 i7 : Value) (b9 : Act) (L9 : Array Bool) (a9 : Act) (w9 : World) : Prop :=
  ∃ (gg0 gg1 gg2 gg3 gg4 gg5 gg6 gg7 gg8 gg9 gg10 gg11 gg12 : Bool) (x9 x10 : Nat), L9 = #[gg0, gg1, gg2, gg3, gg4, gg5, gg6, gg7, gg8, gg9, gg10, gg11, gg12] ∧ a9 = (((((((((((b9).put (some 17) (cond gg0 (.slice (some ⟨bb, oo, none⟩) (m + 2) c) (i17))).put (some 18) (cond gg1 (.int .i64 (i : Int)) (i18))).put (some 19) (cond gg2 (.pointer (some ⟨bb, oo + i * 2, none⟩)) (i19))).put (some 20) (cond gg3 (.agg #[.int .i64 P, .int .i64 S]) (i20))).put (some 21) (cond gg4 (.slice (some ⟨bb, oo, none⟩) (m + 2) c) (i21))).put (some 22) (cond gg5 (.int .i64 (i : Int)) (i22))).put (some 23) (cond gg6 (.int .i64 ((i : Int) + 1)) (i23))).put (some 24) (cond gg7 (.pointer (some ⟨bb, oo + (i + 1) * 2, none⟩)) (i24))).put (some 25) (cond gg8 (.agg #[.int .i64 Q, .int .i64 T]) (i25))).put (some 6) (cond gg9 (.pointer (some ⟨x9, 0, none⟩)) (i6))).put (some 7) (cond gg10 (.pointer (some ⟨x10, 0, none⟩)) (i7)) ∧ Blk w9 w.heap.size #[.slice (some ⟨bb, oo, none⟩) (m + 2) c] 27 ∧ Blk w9 (w.heap.size + 1) #[.int .i64 X, .int .i64 D] 23 ∧ Blk w9 (w.heap.size + 1 + 1) #[.int .i64 0, .int .i64 0] 23 ∧ Below w.heap.size w w9 ∧ (w.heap.size + 1 + 1 + 1) ≤ w9.heap.size ∧ (gg9 = true → Blk w9 x9 (cond gg11 #[.int .i64 P, .int .i64 S] #[.int .i64 0, .int .i64 0]) 98 ∧ (w.heap.size + 1 + 1 + 1) ≤ x9) ∧ (gg10 = true → Blk w9 x10 (cond gg12 #[.int .i64 Q, .int .i64 T] #[.int .i64 0, .int .i64 0]) 98 ∧ (w.heap.size + 1 + 1 + 1) ≤ x10) ∧ (gg9 = true → gg10 = true → x9 ≠ x10) ∧ (gg11 = true → gg9 = true) ∧ (gg12 = true → gg10 = true)

set_option maxRecDepth 100000 in
set_option maxHeartbeats 4000000 in
set_option linter.unusedSimpArgs false in
theorem corrected_walk (i m c bb oo : Nat) (X D P Q S T M N E : Int) (w : World) (hi : i ≤ m) (hm : m ≤ 1000)
    (g1 : -8192 ≤ Q - P) (g2 : Q - P ≤ 8192) (g3 : -8192 ≤ T - S) (g4 : T - S ≤ 8192) (g5 : -4294967296 ≤ P * D) (g6 : P * D ≤ 4294967296) (g7 : -8589934592 ≤ X - P * D) (g8 : X - P * D ≤ 8589934592)
    (g9 : -33554432 ≤ S * (Q - P)) (g10 : S * (Q - P) ≤ 33554432) (g11 : -35184372088832 ≤ S * (Q - P) * D) (g12 : S * (Q - P) * D ≤ 35184372088832) (g13 : -70368744177664 ≤ (X - P * D) * (T - S)) (g14 : (X - P * D) * (T - S) ≤ 70368744177664) (g15 : -8589934592 ≤ (Q - P) * D) (g16 : (Q - P) * D ≤ 8589934592)
    (HC0 : Hid (w.cell? ⟨bb, oo + i * 2, none⟩ = some (.int .i64 P))) (HC1 : Hid (w.cell? ⟨bb, oo + i * 2 + 1, none⟩ = some (.int .i64 S))) (HC2 : Hid (w.cell? ⟨bb, oo + (i + 1) * 2, none⟩ = some (.int .i64 Q))) (HC3 : Hid (w.cell? ⟨bb, oo + (i + 1) * 2 + 1, none⟩ = some (.int .i64 T)))
    (HS : Hid (∀ w1 : World, Blk w1 w.heap.size #[.slice (some ⟨bb, oo, none⟩) (m + 2) c] 27 → Blk w1 (w.heap.size + 1) #[.int .i64 X, .int .i64 D] 23 → Below w.heap.size w w1 → Calls Try.prog 55 #[.int .i64 (m : Int), .func (.func 86) #[] #[.pointer (some ⟨w.heap.size + 1, 0, none⟩), .pointer (some ⟨w.heap.size, 0, none⟩)]] w1 fun e w' => e = .returned (.int .i64 (i : Int)) ∧ Below w1.heap.size w1 w'))
    (HM : Hid (∀ w, Calls Try.prog 81 #[.int .i64 (S * (Q - P) * D + (X - P * D) * (T - S)), .int .i64 ((Q - P) * D)] w fun e w' => e = .returned (.tuple #[.agg #[.int .i64 M, .int .i64 N], .int .i64 E]) ∧ Below w.heap.size w w')) :
    Calls Try.prog 53 #[.slice (some ⟨bb, oo, none⟩) (m + 2) c, .agg #[.int .i64 X, .int .i64 D]] w fun e w' => e = .returned (.agg #[.int .i64 M, .int .i64 N]) ∧ Below w.heap.size w w' := by
  have p0 : (0 : Int) ≤ (i : Int) := by omega
  have p1 : (i : Int) ≤ (m : Int) := by omega
  have p2 : (m : Int) ≤ 1000 := by omega
  have p3 : (0 : Int) ≤ (i : Int) + 1 := by omega
  have p4 : ((i : Int) + 1).toNat = i + 1 := by omega
  have p5 : (i : Int) < (m : Int) + 2 := by omega
  have p6 : (i : Int) + 1 < (m : Int) + 2 := by omega
  have hw0 : IntKind.i64.wrap ((i : Int) + 1) = (i : Int) + 1 := IntWalk.i64_in _ (by omega)
  go_enter Try.func53, Try.ntmps53
  go_upto_region 2 with (go_at_call 55; (with_reducible refine (HS.out _ (by (repeat' (first | (with_reducible assumption) | ((with_reducible refine Blk.new ?_); first | rfl | (simp; done)) | (with_reducible refine Blk.later (by assumption) ?_) | (with_reducible refine Blk.alloc ?_) | (with_reducible refine Blk.drewN ?_) | (with_reducible refine Blk.drew ?_) | (with_reducible refine Blk.other ?_ (by first | omega | (simp; done) | (simp; omega)))))) (by (repeat' (first | (with_reducible assumption) | ((with_reducible refine Blk.new ?_); first | rfl | (simp; done)) | (with_reducible refine Blk.later (by assumption) ?_) | (with_reducible refine Blk.alloc ?_) | (with_reducible refine Blk.drewN ?_) | (with_reducible refine Blk.drew ?_) | (with_reducible refine Blk.other ?_ (by first | omega | (simp; done) | (simp; omega)))))) (by (repeat' (first | (with_reducible exact Below.refl _ _) | (with_reducible assumption) | (with_reducible refine belowThru ?_ (by assumption)) | (with_reducible refine belowAlloc ?_) | (with_reducible refine Below.setCell ?_ (by first | omega | (simp; done) | (simp; omega)) _) | (with_reducible refine Below.drew ?_) | (with_reducible refine below_drewN ?_ _))))).mono ?_); rintro e w1 ⟨rfl, hb⟩; (first | ((with_reducible have k0 := Blk.later hb (Blk.alloc (Blk.alloc (Blk.new rfl)))); (with_reducible have k1 := Blk.later hb (Blk.alloc (Blk.new rfl))); (with_reducible have k2 := Blk.later hb (Blk.new rfl)); simp only [World.size_alloc] at k1 k2; obtain ⟨a0, b0⟩ := k0.read; have zl := k0.lt; obtain ⟨a1, b1⟩ := k1.read; have zl := k1.lt; obtain ⟨a2, b2⟩ := k2.read; have zl := k2.lt) | ((try (have zk := k0.lt; (first | ((with_reducible refine Blk.keepG hb k0 (fun h => ?_) ?_); (focus ((repeat' (first | (with_reducible assumption) | ((with_reducible refine Blk.new ?_); first | rfl | (simp; done)) | (with_reducible refine Blk.later (by assumption) ?_) | (with_reducible refine Blk.alloc ?_) | (with_reducible refine Blk.drewN ?_) | (with_reducible refine Blk.drew ?_) | (with_reducible refine Blk.other ?_ (by first | omega | (simp; done) | (simp; omega))))); done)); clear k0; intro k0) | (with_reducible replace k0 := Blk.later hb (Blk.set (Blk.set k0))) | (with_reducible replace k0 := Blk.later hb (Blk.set k0))); clear a0 b0; obtain ⟨a0, b0⟩ := k0.read; have zl := k0.lt)); (try (have zk := k1.lt; (first | ((with_reducible refine Blk.keepG hb k1 (fun h => ?_) ?_); (focus ((repeat' (first | (with_reducible assumption) | ((with_reducible refine Blk.new ?_); first | rfl | (simp; done)) | (with_reducible refine Blk.later (by assumption) ?_) | (with_reducible refine Blk.alloc ?_) | (with_reducible refine Blk.drewN ?_) | (with_reducible refine Blk.drew ?_) | (with_reducible refine Blk.other ?_ (by first | omega | (simp; done) | (simp; omega))))); done)); clear k1; intro k1) | (with_reducible replace k1 := Blk.later hb (Blk.set (Blk.set k1))) | (with_reducible replace k1 := Blk.later hb (Blk.set k1))); clear a1 b1; obtain ⟨a1, b1⟩ := k1.read; have zl := k1.lt)); (try (have zk := k2.lt; (first | ((with_reducible refine Blk.keepG hb k2 (fun h => ?_) ?_); (focus ((repeat' (first | (with_reducible assumption) | ((with_reducible refine Blk.new ?_); first | rfl | (simp; done)) | (with_reducible refine Blk.later (by assumption) ?_) | (with_reducible refine Blk.alloc ?_) | (with_reducible refine Blk.drewN ?_) | (with_reducible refine Blk.drew ?_) | (with_reducible refine Blk.other ?_ (by first | omega | (simp; done) | (simp; omega))))); done)); clear k2; intro k2) | (with_reducible replace k2 := Blk.later hb (Blk.set (Blk.set k2))) | (with_reducible replace k2 := Blk.later hb (Blk.set k2))); clear a2 b2; obtain ⟨a2, b2⟩ := k2.read; have zl := k2.lt)))); clear HS)
  refine wp_region_inv (CorrI i m c bb oo X D P Q S T w ?i17 ?i18 ?i19 ?i20 ?i21 ?i22 ?i23 ?i24 ?i25 ?i6 ?i7) (by kernel_rfl) (by kernel_rfl) ?hsz ?hst ?hstep ?hfin
  case hst =>
    unfold CorrI
    refine ⟨false, false, false, false, false, false, false, false, false, false, false, false, false, 0, 0, rfl, ?_, ?_, ?_, ?_, ?_, ?_, ?_, ?_, ?_, ?_, ?_⟩
    · first | (simp only [Act.put, List.setIfInBounds_toArray, List.set_cons_zero, List.set_cons_succ, cond_false]; done) | (simp only [Act.put, List.setIfInBounds_toArray, List.set_cons_zero, List.set_cons_succ, cond_false]; rfl)
    all_goals (first | (intro h; cases h; done) | ((repeat' (first | (with_reducible assumption) | ((with_reducible refine Blk.new ?_); first | rfl | (simp; done)) | (with_reducible refine Blk.later (by assumption) ?_) | (with_reducible refine Blk.alloc ?_) | (with_reducible refine Blk.drewN ?_) | (with_reducible refine Blk.drew ?_) | (with_reducible refine Blk.other ?_ (by first | omega | (simp; done) | (simp; omega))))); done) | ((repeat' (first | (with_reducible exact Below.refl _ _) | (with_reducible assumption) | (with_reducible refine belowThru ?_ (by assumption)) | (with_reducible refine belowAlloc ?_) | (with_reducible refine Below.setCell ?_ (by first | omega | (simp; done) | (simp; omega)) _) | (with_reducible refine Below.drew ?_) | (with_reducible refine below_drewN ?_ _))); done) | (simp only [cond_false]; (repeat' (first | (with_reducible assumption) | ((with_reducible refine Blk.new ?_); first | rfl | (simp; done)) | (with_reducible refine Blk.later (by assumption) ?_) | (with_reducible refine Blk.alloc ?_) | (with_reducible refine Blk.drewN ?_) | (with_reducible refine Blk.drew ?_) | (with_reducible refine Blk.other ?_ (by first | omega | (simp; done) | (simp; omega))))); done) | (simp only [World.size_drew]; omega) | (simp only [World.size_drew] at *; omega) | (simp; done) | (simp; omega))
  case hsz =>
    intro L a w9 h
    obtain ⟨gg0, gg1, gg2, gg3, gg4, gg5, gg6, gg7, gg8, gg9, gg10, gg11, gg12, x9, x10, rfl, -⟩ := h; rfl
  case hstep =>
    intro L a w9 hI i hi
    obtain ⟨gg0, gg1, gg2, gg3, gg4, gg5, gg6, gg7, gg8, gg9, gg10, gg11, gg12, x9, x10, rfl, rfl, fb0, fb1, fb2, fB, fL, f9, f10, d9_10, s9, s10⟩ := hI
    obtain ⟨hi1, hi2, o, ho, hall⟩ := inv_mem hi
    clear hi
    rcases i with _ | _ | _ | _ | _ | _ | _ | _ | _ | _ | _ | _ | _ | i
    · have ge0 : gg0 = false := hi2
      clear hall hi1 hi2
      subst ge0
      have ho2 := ho
      simp only [List.getElem?_toArray, List.getElem?_cons_zero, List.getElem?_cons_succ] at ho2
      have ho3 := Option.some.inj ho2; clear ho2; subst ho3
      obtain ⟨ba0, bb0⟩ := fb0.read; have bl0 := fb0.lt
      obtain ⟨ba1, bb1⟩ := fb1.read; have bl1 := fb1.lt
      obtain ⟨ba2, bb2⟩ := fb2.read; have bl2 := fb2.lt
      simp only [Act.put, List.setIfInBounds_toArray, List.set_cons_zero, List.set_cons_succ]
      simp only [cond_true, cond_false]
      refine inv_op ho (by kernel_rfl) (fun K hK => ?_)
      clear ho
      go_simp
      refine hK.out _ _ ?_
      unfold CorrI
      refine ⟨true, gg1, gg2, gg3, gg4, gg5, gg6, gg7, gg8, gg9, gg10, gg11, gg12, x9, x10, rfl, by simp only [Act.put, List.setIfInBounds_toArray, List.set_cons_zero, List.set_cons_succ, cond_true, cond_false, Bool.cond_self], ?_, ?_, ?_, ?_, ?_, ?_, ?_, ?_, ?_, ?_⟩
      · exact fb0
      · exact fb1
      · exact fb2
      · exact fB
      · exact fL
      · exact f9
      · exact f10
      · exact d9_10
      · exact s9
      · exact s10
    · have ge1 : gg1 = false := hi2
      clear hall hi1 hi2
      subst ge1
      have ho2 := ho
      simp only [List.getElem?_toArray, List.getElem?_cons_zero, List.getElem?_cons_succ] at ho2
      have ho3 := Option.some.inj ho2; clear ho2; subst ho3
      obtain ⟨ba0, bb0⟩ := fb0.read; have bl0 := fb0.lt
      obtain ⟨ba1, bb1⟩ := fb1.read; have bl1 := fb1.lt
      obtain ⟨ba2, bb2⟩ := fb2.read; have bl2 := fb2.lt
      simp only [Act.put, List.setIfInBounds_toArray, List.set_cons_zero, List.set_cons_succ]
      simp only [cond_true, cond_false]
      refine inv_op ho (by kernel_rfl) (fun K hK => ?_)
      clear ho
      go_simp
      refine hK.out _ _ ?_
      unfold CorrI
      refine ⟨gg0, true, gg2, gg3, gg4, gg5, gg6, gg7, gg8, gg9, gg10, gg11, gg12, x9, x10, rfl, by simp only [Act.put, List.setIfInBounds_toArray, List.set_cons_zero, List.set_cons_succ, cond_true, cond_false, Bool.cond_self], ?_, ?_, ?_, ?_, ?_, ?_, ?_, ?_, ?_, ?_⟩
      · exact fb0
      · exact fb1
      · exact fb2
      · exact fB
      · exact fL
      · exact f9
      · exact f10
      · exact d9_10
      · exact s9
      · exact s10
    · have ge2 : gg2 = false := hi2
      have ge0 : gg0 = true := inv_dep ho hall 0 (by kernel_rfl)
      have ge1 : gg1 = true := inv_dep ho hall 1 (by kernel_rfl)
      clear hall hi1 hi2
      subst ge2 ge0 ge1
      have ho2 := ho
      simp only [List.getElem?_toArray, List.getElem?_cons_zero, List.getElem?_cons_succ] at ho2
      have ho3 := Option.some.inj ho2; clear ho2; subst ho3
      obtain ⟨ba0, bb0⟩ := fb0.read; have bl0 := fb0.lt
      obtain ⟨ba1, bb1⟩ := fb1.read; have bl1 := fb1.lt
      obtain ⟨ba2, bb2⟩ := fb2.read; have bl2 := fb2.lt
      simp only [Act.put, List.setIfInBounds_toArray, List.set_cons_zero, List.set_cons_succ]
      simp only [cond_true, cond_false]
      refine inv_op ho (by kernel_rfl) (fun K hK => ?_)
      clear ho
      go_simp
      refine hK.out _ _ ?_
      unfold CorrI
      refine ⟨true, true, true, gg3, gg4, gg5, gg6, gg7, gg8, gg9, gg10, gg11, gg12, x9, x10, rfl, by simp only [Act.put, List.setIfInBounds_toArray, List.set_cons_zero, List.set_cons_succ, cond_true, cond_false, Bool.cond_self], ?_, ?_, ?_, ?_, ?_, ?_, ?_, ?_, ?_, ?_⟩
      · exact fb0
      · exact fb1
      · exact fb2
      · exact fB
      · exact fL
      · exact f9
      · exact f10
      · exact d9_10
      · exact s9
      · exact s10
    · have ge3 : gg3 = false := hi2
      have ge2 : gg2 = true := inv_dep ho hall 2 (by kernel_rfl)
      clear hall hi1 hi2
      subst ge3 ge2
      have ho2 := ho
      simp only [List.getElem?_toArray, List.getElem?_cons_zero, List.getElem?_cons_succ] at ho2
      have ho3 := Option.some.inj ho2; clear ho2; subst ho3
      obtain ⟨ba0, bb0⟩ := fb0.read; have bl0 := fb0.lt
      obtain ⟨ba1, bb1⟩ := fb1.read; have bl1 := fb1.lt
      obtain ⟨ba2, bb2⟩ := fb2.read; have bl2 := fb2.lt
      have ce := cell_later fB HC0.out
      have cf := cell_later fB HC1.out
      simp only [Act.put, List.setIfInBounds_toArray, List.set_cons_zero, List.set_cons_succ]
      simp only [cond_true, cond_false]
      refine inv_op ho (by kernel_rfl) (fun K hK => ?_)
      clear ho
      go_simp
      refine hK.out _ _ ?_
      unfold CorrI
      refine ⟨gg0, gg1, true, true, gg4, gg5, gg6, gg7, gg8, gg9, gg10, gg11, gg12, x9, x10, rfl, by simp only [Act.put, List.setIfInBounds_toArray, List.set_cons_zero, List.set_cons_succ, cond_true, cond_false, Bool.cond_self], ?_, ?_, ?_, ?_, ?_, ?_, ?_, ?_, ?_, ?_⟩
      · exact fb0
      · exact fb1
      · exact fb2
      · exact fB
      · exact fL
      · exact f9
      · exact f10
      · exact d9_10
      · exact s9
      · exact s10
    · have ge4 : gg4 = false := hi2
      clear hall hi1 hi2
      subst ge4
      have ho2 := ho
      simp only [List.getElem?_toArray, List.getElem?_cons_zero, List.getElem?_cons_succ] at ho2
      have ho3 := Option.some.inj ho2; clear ho2; subst ho3
      obtain ⟨ba0, bb0⟩ := fb0.read; have bl0 := fb0.lt
      obtain ⟨ba1, bb1⟩ := fb1.read; have bl1 := fb1.lt
      obtain ⟨ba2, bb2⟩ := fb2.read; have bl2 := fb2.lt
      simp only [Act.put, List.setIfInBounds_toArray, List.set_cons_zero, List.set_cons_succ]
      simp only [cond_true, cond_false]
      refine inv_op ho (by kernel_rfl) (fun K hK => ?_)
      clear ho
      go_simp
      refine hK.out _ _ ?_
      unfold CorrI
      refine ⟨gg0, gg1, gg2, gg3, true, gg5, gg6, gg7, gg8, gg9, gg10, gg11, gg12, x9, x10, rfl, by simp only [Act.put, List.setIfInBounds_toArray, List.set_cons_zero, List.set_cons_succ, cond_true, cond_false, Bool.cond_self], ?_, ?_, ?_, ?_, ?_, ?_, ?_, ?_, ?_, ?_⟩
      · exact fb0
      · exact fb1
      · exact fb2
      · exact fB
      · exact fL
      · exact f9
      · exact f10
      · exact d9_10
      · exact s9
      · exact s10
    · have ge5 : gg5 = false := hi2
      clear hall hi1 hi2
      subst ge5
      have ho2 := ho
      simp only [List.getElem?_toArray, List.getElem?_cons_zero, List.getElem?_cons_succ] at ho2
      have ho3 := Option.some.inj ho2; clear ho2; subst ho3
      obtain ⟨ba0, bb0⟩ := fb0.read; have bl0 := fb0.lt
      obtain ⟨ba1, bb1⟩ := fb1.read; have bl1 := fb1.lt
      obtain ⟨ba2, bb2⟩ := fb2.read; have bl2 := fb2.lt
      simp only [Act.put, List.setIfInBounds_toArray, List.set_cons_zero, List.set_cons_succ]
      simp only [cond_true, cond_false]
      refine inv_op ho (by kernel_rfl) (fun K hK => ?_)
      clear ho
      go_simp
      refine hK.out _ _ ?_
      unfold CorrI
      refine ⟨gg0, gg1, gg2, gg3, gg4, true, gg6, gg7, gg8, gg9, gg10, gg11, gg12, x9, x10, rfl, by simp only [Act.put, List.setIfInBounds_toArray, List.set_cons_zero, List.set_cons_succ, cond_true, cond_false, Bool.cond_self], ?_, ?_, ?_, ?_, ?_, ?_, ?_, ?_, ?_, ?_⟩
      · exact fb0
      · exact fb1
      · exact fb2
      · exact fB
      · exact fL
      · exact f9
      · exact f10
      · exact d9_10
      · exact s9
      · exact s10
    · have ge6 : gg6 = false := hi2
      have ge5 : gg5 = true := inv_dep ho hall 5 (by kernel_rfl)
      clear hall hi1 hi2
      subst ge6 ge5
      have ho2 := ho
      simp only [List.getElem?_toArray, List.getElem?_cons_zero, List.getElem?_cons_succ] at ho2
      have ho3 := Option.some.inj ho2; clear ho2; subst ho3
      obtain ⟨ba0, bb0⟩ := fb0.read; have bl0 := fb0.lt
      obtain ⟨ba1, bb1⟩ := fb1.read; have bl1 := fb1.lt
      obtain ⟨ba2, bb2⟩ := fb2.read; have bl2 := fb2.lt
      simp only [Act.put, List.setIfInBounds_toArray, List.set_cons_zero, List.set_cons_succ]
      simp only [cond_true, cond_false]
      refine inv_op ho (by kernel_rfl) (fun K hK => ?_)
      clear ho
      go_simp
      refine hK.out _ _ ?_
      unfold CorrI
      refine ⟨gg0, gg1, gg2, gg3, gg4, true, true, gg7, gg8, gg9, gg10, gg11, gg12, x9, x10, rfl, by simp only [Act.put, List.setIfInBounds_toArray, List.set_cons_zero, List.set_cons_succ, cond_true, cond_false, Bool.cond_self], ?_, ?_, ?_, ?_, ?_, ?_, ?_, ?_, ?_, ?_⟩
      · exact fb0
      · exact fb1
      · exact fb2
      · exact fB
      · exact fL
      · exact f9
      · exact f10
      · exact d9_10
      · exact s9
      · exact s10
    · have ge7 : gg7 = false := hi2
      have ge4 : gg4 = true := inv_dep ho hall 4 (by kernel_rfl)
      have ge6 : gg6 = true := inv_dep ho hall 6 (by kernel_rfl)
      clear hall hi1 hi2
      subst ge7 ge4 ge6
      have ho2 := ho
      simp only [List.getElem?_toArray, List.getElem?_cons_zero, List.getElem?_cons_succ] at ho2
      have ho3 := Option.some.inj ho2; clear ho2; subst ho3
      obtain ⟨ba0, bb0⟩ := fb0.read; have bl0 := fb0.lt
      obtain ⟨ba1, bb1⟩ := fb1.read; have bl1 := fb1.lt
      obtain ⟨ba2, bb2⟩ := fb2.read; have bl2 := fb2.lt
      simp only [Act.put, List.setIfInBounds_toArray, List.set_cons_zero, List.set_cons_succ]
      simp only [cond_true, cond_false]
      refine inv_op ho (by kernel_rfl) (fun K hK => ?_)
      clear ho
      go_simp
      refine hK.out _ _ ?_
      unfold CorrI
      refine ⟨gg0, gg1, gg2, gg3, true, gg5, true, true, gg8, gg9, gg10, gg11, gg12, x9, x10, rfl, by simp only [Act.put, List.setIfInBounds_toArray, List.set_cons_zero, List.set_cons_succ, cond_true, cond_false, Bool.cond_self], ?_, ?_, ?_, ?_, ?_, ?_, ?_, ?_, ?_, ?_⟩
      · exact fb0
      · exact fb1
      · exact fb2
      · exact fB
      · exact fL
      · exact f9
      · exact f10
      · exact d9_10
      · exact s9
      · exact s10
    · have ge8 : gg8 = false := hi2
      have ge7 : gg7 = true := inv_dep ho hall 7 (by kernel_rfl)
      clear hall hi1 hi2
      subst ge8 ge7
      have ho2 := ho
      simp only [List.getElem?_toArray, List.getElem?_cons_zero, List.getElem?_cons_succ] at ho2
      have ho3 := Option.some.inj ho2; clear ho2; subst ho3
      obtain ⟨ba0, bb0⟩ := fb0.read; have bl0 := fb0.lt
      obtain ⟨ba1, bb1⟩ := fb1.read; have bl1 := fb1.lt
      obtain ⟨ba2, bb2⟩ := fb2.read; have bl2 := fb2.lt
      have ce := cell_later fB HC2.out
      have cf := cell_later fB HC3.out
      simp only [Act.put, List.setIfInBounds_toArray, List.set_cons_zero, List.set_cons_succ]
      simp only [cond_true, cond_false]
      refine inv_op ho (by kernel_rfl) (fun K hK => ?_)
      clear ho
      go_simp
      refine hK.out _ _ ?_
      unfold CorrI
      refine ⟨gg0, gg1, gg2, gg3, gg4, gg5, gg6, true, true, gg9, gg10, gg11, gg12, x9, x10, rfl, by simp only [Act.put, List.setIfInBounds_toArray, List.set_cons_zero, List.set_cons_succ, cond_true, cond_false, Bool.cond_self], ?_, ?_, ?_, ?_, ?_, ?_, ?_, ?_, ?_, ?_⟩
      · exact fb0
      · exact fb1
      · exact fb2
      · exact fB
      · exact fL
      · exact f9
      · exact f10
      · exact d9_10
      · exact s9
      · exact s10
    · have ge9 : gg9 = false := hi2
      clear hall hi1 hi2
      subst ge9
      have ho2 := ho
      simp only [List.getElem?_toArray, List.getElem?_cons_zero, List.getElem?_cons_succ] at ho2
      have ho3 := Option.some.inj ho2; clear ho2; subst ho3
      obtain ⟨ba0, bb0⟩ := fb0.read; have bl0 := fb0.lt
      obtain ⟨ba1, bb1⟩ := fb1.read; have bl1 := fb1.lt
      obtain ⟨ba2, bb2⟩ := fb2.read; have bl2 := fb2.lt
      obtain rfl : gg11 = false := by cases gg11; rfl; exact Bool.noConfusion (s9 rfl)
      simp only [Act.put, List.setIfInBounds_toArray, List.set_cons_zero, List.set_cons_succ]
      simp only [cond_true, cond_false]
      refine inv_op ho (by kernel_rfl) (fun K hK => ?_)
      clear ho
      go_simp
      refine hK.out _ _ ?_
      unfold CorrI
      refine ⟨gg0, gg1, gg2, gg3, gg4, gg5, gg6, gg7, gg8, true, gg10, false, gg12, w9.heap.size, x10, rfl, by simp only [Act.put, List.setIfInBounds_toArray, List.set_cons_zero, List.set_cons_succ, cond_true, cond_false, Bool.cond_self], ?_, ?_, ?_, ?_, ?_, ?_, ?_, ?_, ?_, ?_⟩
      · exact fb0.alloc
      · exact fb1.alloc
      · exact fb2.alloc
      · exact belowAlloc fB
      · simp only [World.size_alloc]; omega
      · intro _; exact ⟨Blk.new rfl, fL⟩
      · intro h; obtain ⟨p, q⟩ := f10 h; exact ⟨p.alloc, q⟩
      · intro _ h; have := (f10 h).1.lt; omega
      · intro _; rfl
      · exact s10
    · have ge10 : gg10 = false := hi2
      clear hall hi1 hi2
      subst ge10
      have ho2 := ho
      simp only [List.getElem?_toArray, List.getElem?_cons_zero, List.getElem?_cons_succ] at ho2
      have ho3 := Option.some.inj ho2; clear ho2; subst ho3
      obtain ⟨ba0, bb0⟩ := fb0.read; have bl0 := fb0.lt
      obtain ⟨ba1, bb1⟩ := fb1.read; have bl1 := fb1.lt
      obtain ⟨ba2, bb2⟩ := fb2.read; have bl2 := fb2.lt
      obtain rfl : gg12 = false := by cases gg12; rfl; exact Bool.noConfusion (s10 rfl)
      simp only [Act.put, List.setIfInBounds_toArray, List.set_cons_zero, List.set_cons_succ]
      simp only [cond_true, cond_false]
      refine inv_op ho (by kernel_rfl) (fun K hK => ?_)
      clear ho
      go_simp
      refine hK.out _ _ ?_
      unfold CorrI
      refine ⟨gg0, gg1, gg2, gg3, gg4, gg5, gg6, gg7, gg8, gg9, true, gg11, false, x9, w9.heap.size, rfl, by simp only [Act.put, List.setIfInBounds_toArray, List.set_cons_zero, List.set_cons_succ, cond_true, cond_false, Bool.cond_self], ?_, ?_, ?_, ?_, ?_, ?_, ?_, ?_, ?_, ?_⟩
      · exact fb0.alloc
      · exact fb1.alloc
      · exact fb2.alloc
      · exact belowAlloc fB
      · simp only [World.size_alloc]; omega
      · intro h; obtain ⟨p, q⟩ := f9 h; exact ⟨p.alloc, q⟩
      · intro _; exact ⟨Blk.new rfl, fL⟩
      · intro h _; have := (f9 h).1.lt; omega
      · exact s9
      · intro _; rfl
    · have ge11 : gg11 = false := hi2
      have ge3 : gg3 = true := inv_dep ho hall 3 (by kernel_rfl)
      have ge9 : gg9 = true := inv_dep ho hall 9 (by kernel_rfl)
      clear hall hi1 hi2
      subst ge11 ge3 ge9
      have ho2 := ho
      simp only [List.getElem?_toArray, List.getElem?_cons_zero, List.getElem?_cons_succ] at ho2
      have ho3 := Option.some.inj ho2; clear ho2; subst ho3
      obtain ⟨p9, q9⟩ := f9 rfl
      obtain ⟨ra9, rb9⟩ := p9.read
      have rl9 := p9.lt
      obtain ⟨ba0, bb0⟩ := fb0.read; have bl0 := fb0.lt
      obtain ⟨ba1, bb1⟩ := fb1.read; have bl1 := fb1.lt
      obtain ⟨ba2, bb2⟩ := fb2.read; have bl2 := fb2.lt
      have rl9 := p9.lt
      skip
      simp only [Act.put, List.setIfInBounds_toArray, List.set_cons_zero, List.set_cons_succ]
      simp only [cond_true, cond_false]
      refine inv_op ho (by kernel_rfl) (fun K hK => ?_)
      clear ho
      go_simp
      refine hK.out _ _ ?_
      unfold CorrI
      refine ⟨gg0, gg1, gg2, true, gg4, gg5, gg6, gg7, gg8, true, gg10, true, gg12, x9, x10, rfl, by simp only [Act.put, List.setIfInBounds_toArray, List.set_cons_zero, List.set_cons_succ, cond_true, cond_false, Bool.cond_self], ?_, ?_, ?_, ?_, ?_, ?_, ?_, ?_, ?_, ?_⟩
      · (repeat' (first | (with_reducible assumption) | ((with_reducible refine Blk.new ?_); first | rfl | (simp; done)) | (with_reducible refine Blk.later (by assumption) ?_) | (with_reducible refine Blk.alloc ?_) | (with_reducible refine Blk.drewN ?_) | (with_reducible refine Blk.drew ?_) | (with_reducible refine Blk.other ?_ (by first | omega | (simp; done) | (simp; omega)))))
      · (repeat' (first | (with_reducible assumption) | ((with_reducible refine Blk.new ?_); first | rfl | (simp; done)) | (with_reducible refine Blk.later (by assumption) ?_) | (with_reducible refine Blk.alloc ?_) | (with_reducible refine Blk.drewN ?_) | (with_reducible refine Blk.drew ?_) | (with_reducible refine Blk.other ?_ (by first | omega | (simp; done) | (simp; omega)))))
      · (repeat' (first | (with_reducible assumption) | ((with_reducible refine Blk.new ?_); first | rfl | (simp; done)) | (with_reducible refine Blk.later (by assumption) ?_) | (with_reducible refine Blk.alloc ?_) | (with_reducible refine Blk.drewN ?_) | (with_reducible refine Blk.drew ?_) | (with_reducible refine Blk.other ?_ (by first | omega | (simp; done) | (simp; omega)))))
      · (repeat' (first | (with_reducible exact Below.refl _ _) | (with_reducible assumption) | (with_reducible refine belowThru ?_ (by assumption)) | (with_reducible refine belowAlloc ?_) | (with_reducible refine Below.setCell ?_ (by first | omega | (simp; done) | (simp; omega)) _) | (with_reducible refine Below.drew ?_) | (with_reducible refine below_drewN ?_ _)))
      · first | exact fL | (simp; omega)
      · intro _; exact ⟨by exact Blk.set (Blk.set (p9)), q9⟩
      · intro h; obtain ⟨p, q⟩ := f10 h; have hne := d9_10 rfl h; exact ⟨by (repeat' (first | (with_reducible assumption) | ((with_reducible refine Blk.new ?_); first | rfl | (simp; done)) | (with_reducible refine Blk.later (by assumption) ?_) | (with_reducible refine Blk.alloc ?_) | (with_reducible refine Blk.drewN ?_) | (with_reducible refine Blk.drew ?_) | (with_reducible refine Blk.other ?_ (by first | omega | (simp; done) | (simp; omega))))), q⟩
      · exact d9_10
      · intro _; rfl
      · exact s10
    · have ge12 : gg12 = false := hi2
      have ge8 : gg8 = true := inv_dep ho hall 8 (by kernel_rfl)
      have ge10 : gg10 = true := inv_dep ho hall 10 (by kernel_rfl)
      clear hall hi1 hi2
      subst ge12 ge8 ge10
      have ho2 := ho
      simp only [List.getElem?_toArray, List.getElem?_cons_zero, List.getElem?_cons_succ] at ho2
      have ho3 := Option.some.inj ho2; clear ho2; subst ho3
      obtain ⟨p10, q10⟩ := f10 rfl
      obtain ⟨ra10, rb10⟩ := p10.read
      have rl10 := p10.lt
      obtain ⟨ba0, bb0⟩ := fb0.read; have bl0 := fb0.lt
      obtain ⟨ba1, bb1⟩ := fb1.read; have bl1 := fb1.lt
      obtain ⟨ba2, bb2⟩ := fb2.read; have bl2 := fb2.lt
      have rl10 := p10.lt
      skip
      simp only [Act.put, List.setIfInBounds_toArray, List.set_cons_zero, List.set_cons_succ]
      simp only [cond_true, cond_false]
      refine inv_op ho (by kernel_rfl) (fun K hK => ?_)
      clear ho
      go_simp
      refine hK.out _ _ ?_
      unfold CorrI
      refine ⟨gg0, gg1, gg2, gg3, gg4, gg5, gg6, gg7, true, gg9, true, gg11, true, x9, x10, rfl, by simp only [Act.put, List.setIfInBounds_toArray, List.set_cons_zero, List.set_cons_succ, cond_true, cond_false, Bool.cond_self], ?_, ?_, ?_, ?_, ?_, ?_, ?_, ?_, ?_, ?_⟩
      · (repeat' (first | (with_reducible assumption) | ((with_reducible refine Blk.new ?_); first | rfl | (simp; done)) | (with_reducible refine Blk.later (by assumption) ?_) | (with_reducible refine Blk.alloc ?_) | (with_reducible refine Blk.drewN ?_) | (with_reducible refine Blk.drew ?_) | (with_reducible refine Blk.other ?_ (by first | omega | (simp; done) | (simp; omega)))))
      · (repeat' (first | (with_reducible assumption) | ((with_reducible refine Blk.new ?_); first | rfl | (simp; done)) | (with_reducible refine Blk.later (by assumption) ?_) | (with_reducible refine Blk.alloc ?_) | (with_reducible refine Blk.drewN ?_) | (with_reducible refine Blk.drew ?_) | (with_reducible refine Blk.other ?_ (by first | omega | (simp; done) | (simp; omega)))))
      · (repeat' (first | (with_reducible assumption) | ((with_reducible refine Blk.new ?_); first | rfl | (simp; done)) | (with_reducible refine Blk.later (by assumption) ?_) | (with_reducible refine Blk.alloc ?_) | (with_reducible refine Blk.drewN ?_) | (with_reducible refine Blk.drew ?_) | (with_reducible refine Blk.other ?_ (by first | omega | (simp; done) | (simp; omega)))))
      · (repeat' (first | (with_reducible exact Below.refl _ _) | (with_reducible assumption) | (with_reducible refine belowThru ?_ (by assumption)) | (with_reducible refine belowAlloc ?_) | (with_reducible refine Below.setCell ?_ (by first | omega | (simp; done) | (simp; omega)) _) | (with_reducible refine Below.drew ?_) | (with_reducible refine below_drewN ?_ _)))
      · first | exact fL | (simp; omega)
      · intro h; obtain ⟨p, q⟩ := f9 h; have hne := d9_10 h rfl; exact ⟨by (repeat' (first | (with_reducible assumption) | ((with_reducible refine Blk.new ?_); first | rfl | (simp; done)) | (with_reducible refine Blk.later (by assumption) ?_) | (with_reducible refine Blk.alloc ?_) | (with_reducible refine Blk.drewN ?_) | (with_reducible refine Blk.drew ?_) | (with_reducible refine Blk.other ?_ (by first | omega | (simp; done) | (simp; omega))))), q⟩
      · intro _; exact ⟨by exact Blk.set (Blk.set (p10)), q10⟩
      · exact d9_10
      · exact s9
      · intro _; rfl
    · exfalso; simp at hi1; omega
  case hfin =>
    intro a w9 hI
    obtain ⟨gg0, gg1, gg2, gg3, gg4, gg5, gg6, gg7, gg8, gg9, gg10, gg11, gg12, x9, x10, hL, rfl, fb0, fb1, fb2, fB, fL, f9, f10, d9_10, s9, s10⟩ := hI
    have hL2 : #[true, true, true, true, true, true, true, true, true, true, true, true, true] = #[gg0, gg1, gg2, gg3, gg4, gg5, gg6, gg7, gg8, gg9, gg10, gg11, gg12] := hL
    cases hL2
    obtain ⟨p9, q9⟩ := f9 rfl
    obtain ⟨p10, q10⟩ := f10 rfl
    have n9_10 := d9_10 rfl rfl
    clear f9 f10 d9_10 s9 s10
    simp only [Act.put, List.setIfInBounds_toArray, List.set_cons_zero, List.set_cons_succ]
    simp only [cond_true]
    obtain ⟨ra, rb⟩ := p9.read; obtain ⟨rc, rd⟩ := p10.read; obtain ⟨re, rf⟩ := fb1.read; obtain ⟨rg, rh⟩ := fb2.read
    have lx9 := p9.lt; have lx10 := p10.lt; have lC := fb2.lt; have lB := fb1.lt
    go_wp2_with fail
    go_quiet (fail)
    go_wp2_with (go_at_call 81; (with_reducible refine (HM.out _).mono ?_); rintro e w8 ⟨rfl, hb⟩; have kC := Blk.later hb (Blk.drewN fb2); obtain ⟨rg, rh⟩ := kC.read; have lC8 := kC.lt; have fB8 : Below w.heap.size w w8 := belowThru (below_drewN fB _) hb)
    exact bodyPost_ret (v := .agg #[.int .i64 M, .int .i64 N]) (by simp only [results, Try.results53]; go_simp) rfl ⟨rfl, by (repeat' (first | (with_reducible exact Below.refl _ _) | (with_reducible assumption) | (with_reducible refine belowThru ?_ (by assumption)) | (with_reducible refine belowAlloc ?_) | (with_reducible refine Below.setCell ?_ (by first | omega | (simp; done) | (simp; omega)) _) | (with_reducible refine Below.drew ?_) | (with_reducible refine below_drewN ?_ _)))⟩

end Go.Proofs.Ytbdcmdofmokoeaa
/-
  Layer 4: the corrected place, by the document.
-/
namespace Go.Proofs.Ytbdcmdofmokoeaa
open Go.RowKit
set_option linter.unusedVariables false
set_option linter.unusedSimpArgs false

theorem seg_bounds {P Q S T X D : Int} (hP : -4096 ≤ P ∧ P ≤ 4096) (hQ : -4096 ≤ Q ∧ Q ≤ 4096) (hS : -4096 ≤ S ∧ S ≤ 4096) (hT : -4096 ≤ T ∧ T ≤ 4096) (hD : 1 ≤ D ∧ D ≤ 1048576) (hX : -4294967296 ≤ X ∧ X ≤ 4294967296) :
    ((-8192 ≤ Q - P ∧ Q - P ≤ 8192) ∧ (-8192 ≤ T - S ∧ T - S ≤ 8192)) ∧ (-4294967296 ≤ P * D ∧ P * D ≤ 4294967296) ∧ (-8589934592 ≤ X - P * D ∧ X - P * D ≤ 8589934592) ∧ (-33554432 ≤ S * (Q - P) ∧ S * (Q - P) ≤ 33554432) ∧
      (-35184372088832 ≤ S * (Q - P) * D ∧ S * (Q - P) * D ≤ 35184372088832) ∧ (-70368744177664 ≤ (X - P * D) * (T - S) ∧ (X - P * D) * (T - S) ≤ 70368744177664) ∧ (-8589934592 ≤ (Q - P) * D ∧ (Q - P) * D ≤ 8589934592) ∧ (-4294967296 ≤ S * D ∧ S * D ≤ 4294967296) := by
  have h1 := mul_bd (A := 4096) (B := 1048576) (a := P) (b := D) hP.1 hP.2 (by omega) hD.2
  have h2 := mul_bd (A := 4096) (B := 8192) (a := S) (b := Q - P) hS.1 hS.2 (by omega) (by omega)
  have h3 := mul_bd (A := 33554432) (B := 1048576) (a := S * (Q - P)) (b := D) (by omega) (by omega) (by omega) hD.2
  have h4 := mul_bd (A := 8589934592) (B := 8192) (a := X - P * D) (b := T - S) (by omega) (by omega) (by omega) (by omega)
  have h5 := mul_bd (A := 8192) (B := 1048576) (a := Q - P) (b := D) (by omega) (by omega) (by omega) hD.2
  have h6 := mul_bd (A := 4096) (B := 1048576) (a := S) (b := D) hS.1 hS.2 (by omega) hD.2
  exact ⟨⟨⟨by omega, by omega⟩, by omega, by omega⟩, ⟨by omega, by omega⟩, ⟨by omega, by omega⟩, ⟨by omega, by omega⟩, ⟨by omega, by omega⟩, ⟨by omega, by omega⟩, ⟨by omega, by omega⟩, by omega, by omega⟩
theorem okX.bounds {ks : List (Int × Int)} {X D : Int} (hk : okT ks) (h : okX ks X D) : (1 ≤ D ∧ D ≤ 1048576) ∧ (-4294967296 ≤ X ∧ X ≤ 4294967296) := by
  have hl := hk.1
  have hD : 1 ≤ D := h.1.1
  have q0 := (hk.inT (i := 0) (by omega)).1
  have q1 := (hk.inT (i := ks.length - 1) (by omega)).1
  have h1 := mul_bd (A := 4096) (B := 1048576) (a := at1 ks 0) (b := D) q0.1 q0.2 (by omega) h.2.1
  have h2 := mul_bd (A := 4096) (B := 1048576) (a := at1 ks (ks.length - 1)) (b := D) q1.1 q1.2 (by omega) h.2.1
  have h3 := h.2.2
  exact ⟨⟨hD, h.2.1⟩, by omega, by omega⟩
/-- The cells of a table. -/
theorem KRow.cells {w : World} {a : Option Addr} {n : Nat} {ks : List (Int × Int)} (h : KRow w a n ks) (hn : 0 < n) :
    ∃ b off, a = some ⟨b, off, none⟩ ∧ b < w.heap.size ∧ ∀ j, j < n → w.cell? ⟨b, off + j * 2, none⟩ = some (.int .i64 (at1 ks j)) ∧ w.cell? ⟨b, off + j * 2 + 1, none⟩ = some (.int .i64 (to1 ks j)) := h.2 hn

end Go.Proofs.Ytbdcmdofmokoeaa
