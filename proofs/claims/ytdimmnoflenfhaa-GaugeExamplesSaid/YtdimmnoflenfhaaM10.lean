/-
  The texts that the laws of this seat share, merged: part 1.
-/
import Derived.BigQuiet
import Derived.Deep.CutBlock
import Derived.Deep.DeepCutAuto
import Derived.Deep.Draws
import Derived.Deep.LoopGhost
import Derived.Deep.OwnRows
import Derived.Deep.QuietTactic
import Derived.Deep.RegionHeld3
import Derived.IntWalk
import Derived.Laws.AppendOwn
import Derived.Laws.Bits64b
import Derived.Lib.Hide
import Derived.Lib.ItoaNum
import Derived.LoopIn
import Derived.LoopNIn
import Derived.LoopTactic
import Derived.OneCell
import Derived.Orders
import Derived.OwnWalkIn
import Derived.RangeFuncBound
import Derived.RangeFuncCalls
import Derived.RangeFuncLeaves
import Derived.RangeFuncNested
import Derived.Shelf.Abstract
import Derived.Shelf.AbstractIn
import Derived.Shelf.Bits.Mul64
import Derived.Shelf.RegionOpen
import Derived.Shelf.Small.Bits
import Derived.Shelf.Spec.BitsCarry
import Derived.Shelf.Strconv.Itoa0
import Derived.TacticsInMore
import Derived.Test.YtdimmnoflenfhaaProg
import Derived.WalkKit
import Derived.WalkLawsBesides
import Derived.WalkSmall
import Derived.WalkSpells
import Derived.Test.YtdimmnoflenfhaaM1
import Derived.Test.YtdimmnoflenfhaaM2
import Derived.Test.YtdimmnoflenfhaaM3
import Derived.Test.YtdimmnoflenfhaaM4
import Derived.Test.YtdimmnoflenfhaaM5
import Derived.Test.YtdimmnoflenfhaaM6
import Derived.Test.YtdimmnoflenfhaaM7
import Derived.Test.YtdimmnoflenfhaaM8
import Derived.Test.YtdimmnoflenfhaaM9
namespace Go.Proofs.Ytdimmnoflenfhaa
open Go.RowKit Go.Shelf
set_option linter.unusedVariables false
set_option linter.unusedSimpArgs false

def faS (t : Int) (zs : List Int) (p n : Int) : Option (Rat × Rat) := if okP zs ∧ okN n ∧ okT t ∧ inL zs p then both (LX t (lwL n zs) p.toNat) (LX t (upL n zs) p.toNat) else none
def faE (t : Int) (zs : List Int) (p n : Int) : Int := asE zs (okN n ∧ okT t ∧ inL zs p) (LX t (lwL n zs) p.toNat).isSome
set_option maxHeartbeats 1000000 in
theorem fa1_any (a : Option Addr) (n c : Nat) (zs : List Int) (t p : Int) (B C : Nat) (hn : n ≤ maxLen) (w : World) (hR : Row w a n (iv zs)) (hc : w.cell? ⟨B, 0, none⟩ = some (.int .i64 t)) (hd : w.cell? ⟨C, 0, none⟩ = some (.int .i64 p)) :
    Calls Try.prog 43 #[.slice a n c, .pointer (some ⟨B, 0, none⟩), .pointer (some ⟨C, 0, none⟩)] w fun e w' => e = .returned (.tuple #[.agg #[.int .i64 (oN (laO t zs p)), .int .i64 (oD (laO t zs p))], .int .i64 (laE t zs p)]) ∧ Below w.heap.size w w' := by
  have HN := Lib.hid (fun w => last_any a n c zs t p hn w)
  have HR := Lib.hid hR
  obtain ⟨A, hA⟩ : ∃ A, oN (laO t zs p) = A := ⟨_, rfl⟩
  obtain ⟨D, hD⟩ : ∃ B, oD (laO t zs p) = B := ⟨_, rfl⟩
  obtain ⟨E, hE⟩ : ∃ E, laE t zs p = E := ⟨_, rfl⟩
  rw [hA, hD, hE] at HN ⊢
  have hBl := lt_of_cell hc; have hCl := lt_of_cell hd
  clear hA hD hE hR
  go_enter Try.func43, Try.ntmps43
  go_wp2_with (go_at_call 11; (with_reducible refine (HN.out _ (HR.out.later (by (repeat' (first | (with_reducible exact Below.refl _ _) | (with_reducible assumption) | (with_reducible refine belowThru ?_ (by assumption)) | (with_reducible refine belowAlloc ?_) | (with_reducible refine Below.setCell ?_ (by first | omega | (simp; done) | (simp; omega)) _) | (with_reducible refine Below.drew ?_) | (with_reducible refine below_drewN ?_ _)))))).mono ?_); rintro e w1 ⟨rfl, hb⟩; (first | ((with_reducible have k0 := Blk.later hb (Blk.new rfl)); skip; obtain ⟨a0, b0⟩ := k0.read; have zl := k0.lt) | ((try (have zk := k0.lt; (first | ((with_reducible refine Blk.keepG hb k0 (fun h => ?_) ?_); (focus ((repeat' (first | (with_reducible assumption) | ((with_reducible refine Blk.new ?_); first | rfl | (simp; done)) | (with_reducible refine Blk.later (by assumption) ?_) | (with_reducible refine Blk.alloc ?_) | (with_reducible refine Blk.drewN ?_) | (with_reducible refine Blk.drew ?_) | (with_reducible refine Blk.other ?_ (by first | omega | (simp; done) | (simp; omega))))); done)); clear k0; intro k0) | (with_reducible replace k0 := Blk.later hb (Blk.set (Blk.set k0))) | (with_reducible replace k0 := Blk.later hb (Blk.set k0))); clear a0 b0; obtain ⟨a0, b0⟩ := k0.read; have zl := k0.lt)))))
  exact bodyPost_ret (v := .tuple #[.agg #[.int .i64 A, .int .i64 D], .int .i64 E]) (by simp only [results, Try.results43]; go_simp) rfl ⟨rfl, by (repeat' (first | (with_reducible exact Below.refl _ _) | (with_reducible assumption) | (with_reducible refine belowThru ?_ (by assumption)) | (with_reducible refine belowAlloc ?_) | (with_reducible refine Below.setCell ?_ (by first | omega | (simp; done) | (simp; omega)) _) | (with_reducible refine Below.drew ?_) | (with_reducible refine below_drewN ?_ _)))⟩

theorem laO_bad {t : Int} {zs : List Int} {p : Int} (h : ¬ (okP zs ∧ okT t ∧ inL zs p)) : laO t zs p = none := if_neg h
end Go.Proofs.Ytdimmnoflenfhaa
namespace Go.Proofs.Ytdimmnoflenfhaa
open Go.RowKit Go.Shelf
set_option linter.unusedVariables false
set_option linter.unusedSimpArgs false

theorem encl_fa (a : Option Addr) (n c : Nat) (zs : List Int) (t p nz : Int) (B C : Nat) (hn : n ≤ maxLen) (w : World) (hR : Row w a n (iv zs)) (hc : w.cell? ⟨B, 0, none⟩ = some (.int .i64 t)) (hd : w.cell? ⟨C, 0, none⟩ = some (.int .i64 p)) :
    Calls Try.prog 42 #[.slice a n c, .int .i64 nz, .func (.func 43) #[] #[.pointer (some ⟨B, 0, none⟩), .pointer (some ⟨C, 0, none⟩)]] w fun e w' => e = .returned (.tuple #[.agg #[.int .i64 (s1 (faS t zs p nz)), .int .i64 (s2 (faS t zs p nz)), .int .i64 (s3 (faS t zs p nz)), .int .i64 (s4 (faS t zs p nz))], .int .i64 (faE t zs p nz)]) ∧ Below w.heap.size w w' := by
  have hl : zs.length = n := by have := hR.1; rwa [iv_length] at this
  have ef := enters_of Try.func43 (by kernel_rfl) rfl
  by_cases h1 : okP zs ∧ okN nz
  · have zl := lwL_ok h1.1 h1.2.1
    have zu := upL_ok h1.1 h1.2.1
    have HL : Hid (∀ (b : Nat) (W : World), Below w.heap.size w W → Blk W b (ints (lwL nz zs)) 3 → Calls Try.prog 43 (#[.slice (some ⟨b, 0, none⟩) n n] ++ #[.pointer (some ⟨B, 0, none⟩), .pointer (some ⟨C, 0, none⟩)]) W fun e W2 => e = .returned (.tuple #[.agg #[.int .i64 (oN (laO t (lwL nz zs) p)), .int .i64 (oD (laO t (lwL nz zs) p))], .int .i64 (laE t (lwL nz zs) p)]) ∧ Below W.heap.size W W2) := fun b W hW hk =>
      fa1_any (some ⟨b, 0, none⟩) n n (lwL nz zs) t p B C hn W (Row.of_ints (by rw [lwL_length, hl]) hk) (cell_later hW hc) (cell_later hW hd)
    have HM : Hid (∀ (b : Nat) (W : World), Below w.heap.size w W → Blk W b (ints (upL nz zs)) 3 → Calls Try.prog 43 (#[.slice (some ⟨b, 0, none⟩) n n] ++ #[.pointer (some ⟨B, 0, none⟩), .pointer (some ⟨C, 0, none⟩)]) W fun e W2 => e = .returned (.tuple #[.agg #[.int .i64 (oN (laO t (upL nz zs) p)), .int .i64 (oD (laO t (upL nz zs) p))], .int .i64 (laE t (upL nz zs) p)]) ∧ Below W.heap.size W W2) := fun b W hW hk =>
      fa1_any (some ⟨b, 0, none⟩) n n (upL nz zs) t p B C hn W (Row.of_ints (by rw [upL_length, hl]) hk) (cell_later hW hc) (cell_later hW hd)
    by_cases h2 : okT t ∧ inL zs p
    · have il : inL (lwL nz zs) p := (inL_of (lwL_length nz zs)).2 h2.2
      have iu : inL (upL nz zs) p := (inL_of (upL_length nz zs)).2 h2.2
      rw [laO_ok ⟨zl, h2.1, il⟩, show laE t (lwL nz zs) p = _ from asE_ok zl ⟨h2.1, il⟩] at HL
      rw [laO_ok ⟨zu, h2.1, iu⟩, show laE t (upL nz zs) p = _ from asE_ok zu ⟨h2.1, iu⟩] at HM
      have hp : p.toNat < zs.length := by have := h2.2.1; have := h2.2.2; omega
      have e1 : faS t zs p nz = _ := if_pos ⟨h1.1, h1.2, h2.1, h2.2⟩
      have e2 : faE t zs p nz = _ := asE_ok h1.1 ⟨h1.2, h2.1, h2.2⟩
      cases hx : LX t (lwL nz zs) p.toNat with
      | none =>
        rw [hx] at HL
        have e3 : faS t zs p nz = none := by rw [e1, hx]; unfold both; split <;> first | rfl | simp_all
        rw [e3, e2, hx]
        exact encl_none a n c zs nz _ _ ef h1.1 h1.2 6 rfl w hR HL
      | some x =>
        obtain ⟨y, hy, hyx⟩ := LX_le (lw_up h1.1.2 h1.2.1) (by rw [lwL_length]; omega) hx
        have fx := (LX_fits zl h2.1.1 (by rw [lwL_length]; exact hp) hx).2
        have fy := (LX_fits zu h2.1.1 (by rw [upL_length]; exact hp) hy).2
        rw [hx] at HL
        rw [hy] at HM
        have e3 : faS t zs p nz = some (x, y) := by rw [e1, hx, hy]; rfl
        rw [e3, e2, hx]
        have h := encl_some a n c zs nz _ _ ef h1.1 h1.2 x y fx fy w hR HL HM
        rw [lo2_le hyx, hi2_le hyx] at h
        exact h
    · rw [laO_bad (fun h => h2 ⟨h.2.1, (inL_of (lwL_length nz zs)).1 h.2.2⟩), show laE t (lwL nz zs) p = _ from asE_arg zl (fun h => h2 ⟨h.1, (inL_of (lwL_length nz zs)).1 h.2⟩)] at HL
      have e1 : faS t zs p nz = none := if_neg (fun h => h2 h.2.2)
      have e2 : faE t zs p nz = 2 := asE_arg h1.1 (fun h => h2 h.2)
      rw [e1, e2]
      exact encl_none a n c zs nz _ _ ef h1.1 h1.2 2 rfl w hR HL
  · have e1 : faS t zs p nz = none := if_neg (fun h => h1 ⟨h.1, h.2.1⟩)
    have e2 : faE t zs p nz = if okP zs then 2 else 50 := by
      by_cases hz : okP zs
      · rw [if_pos hz]; exact asE_arg hz (fun h => h1 ⟨hz, h.1⟩)
      · rw [if_neg hz]; exact asE_no hz
    rw [e1, e2]
    exact encl_no a n c zs nz _ _ hn h1 w hR
set_option maxHeartbeats 1000000 in
theorem fa_any (a : Option Addr) (n c : Nat) (zs : List Int) (t p nz : Int) (hn : n ≤ maxLen) (w : World) (hR : Row w a n (iv zs)) :
    Calls Try.prog 12 #[.slice a n c, .int .i64 t, .int .i64 p, .int .i64 nz] w fun e w' => e = .returned (.tuple #[.agg #[.int .i64 (s1 (faS t zs p nz)), .int .i64 (s2 (faS t zs p nz)), .int .i64 (s3 (faS t zs p nz)), .int .i64 (s4 (faS t zs p nz))], .int .i64 (faE t zs p nz)]) ∧ Below w.heap.size w w' := by
  have HN := Lib.hid (fun B C w => encl_fa a n c zs t p nz B C hn w)
  have HR := Lib.hid hR
  obtain ⟨Z1, hZ1⟩ : ∃ z, s1 (faS t zs p nz) = z := ⟨_, rfl⟩
  obtain ⟨Z2, hZ2⟩ : ∃ z, s2 (faS t zs p nz) = z := ⟨_, rfl⟩
  obtain ⟨Z3, hZ3⟩ : ∃ z, s3 (faS t zs p nz) = z := ⟨_, rfl⟩
  obtain ⟨Z4, hZ4⟩ : ∃ z, s4 (faS t zs p nz) = z := ⟨_, rfl⟩
  obtain ⟨E, hE⟩ : ∃ z, faE t zs p nz = z := ⟨_, rfl⟩
  rw [hZ1, hZ2, hZ3, hZ4, hE] at HN ⊢
  clear hZ1 hZ2 hZ3 hZ4 hE hR
  go_enter Try.func12, Try.ntmps12
  go_wp2_with fail
  refine (HN.out _ _ _ (HR.out.later (by (repeat' (first | (with_reducible exact Below.refl _ _) | (with_reducible assumption) | (with_reducible refine belowThru ?_ (by assumption)) | (with_reducible refine belowAlloc ?_) | (with_reducible refine Below.setCell ?_ (by first | omega | (simp; done) | (simp; omega)) _) | (with_reducible refine Below.drew ?_) | (with_reducible refine below_drewN ?_ _))))) (by simp [go_sem]) (by simp [go_sem])).mono ?_
  rintro e w1 ⟨rfl, hb⟩
  have k0 : Blk w1 (w.heap.size + 1 + 1) #[.int .i64 0, .int .i64 0, .int .i64 0, .int .i64 0] 30 := Blk.later hb (Blk.new (by simp))
  obtain ⟨a0, b0⟩ := k0.read
  go_wp2
  exact bodyPost_ret (v := .tuple #[.agg #[.int .i64 Z1, .int .i64 Z2, .int .i64 Z3, .int .i64 Z4], .int .i64 E]) (by simp only [results, Try.results12]; go_simp) rfl ⟨rfl, by (repeat' (first | (with_reducible exact Below.refl _ _) | (with_reducible assumption) | (with_reducible refine belowThru ?_ (by assumption)) | (with_reducible refine belowAlloc ?_) | (with_reducible refine Below.setCell ?_ (by first | omega | (simp; done) | (simp; omega)) _) | (with_reducible refine Below.drew ?_) | (with_reducible refine below_drewN ?_ _)))⟩
end Go.Proofs.Ytdimmnoflenfhaa
/-
  Layer 5: what the law GaugeExamples asks, at its numbers.
-/
namespace Go.Proofs.Ytdimmnoflenfhaa
open Go.RowKit Go.Shelf
set_option linter.unusedVariables false
set_option linter.unusedSimpArgs false

theorem x_first (b : Nat) (w : World) (hk : Blk w b (ints smp) 3) :
    Calls Try.prog 9 #[.slice (some ⟨b, 0, none⟩) 6 6, .int .i64 60, .int .i64 0] w fun e w' => e = .returned (.tuple #[.agg #[.int .i64 2, .int .i64 1], .int .i64 0]) ∧ Below w.heap.size w w' := by
  have h := first_any (some ⟨b, 0, none⟩) 6 6 smp 60 0 (by unfold maxLen; omega) w (Row.of_ints rfl hk)
  rw [show oN (fiO 60 smp 0) = 2 by kernel_rfl, show oD (fiO 60 smp 0) = 1 by kernel_rfl, show fiE 60 smp 0 = 0 by kernel_rfl] at h
  exact h
theorem x_last (b : Nat) (w : World) (hk : Blk w b (ints smp) 3) :
    Calls Try.prog 11 #[.slice (some ⟨b, 0, none⟩) 6 6, .int .i64 85, .int .i64 5] w fun e w' => e = .returned (.tuple #[.agg #[.int .i64 69, .int .i64 16], .int .i64 0]) ∧ Below w.heap.size w w' := by
  have h := last_any (some ⟨b, 0, none⟩) 6 6 smp 85 5 (by unfold maxLen; omega) w (Row.of_ints rfl hk)
  rw [show oN (laO 85 smp 5) = 69 by kernel_rfl, show oD (laO 85 smp 5) = 16 by kernel_rfl, show laE 85 smp 5 = 0 by kernel_rfl] at h
  exact h
theorem x_fall (b : Nat) (w : World) (hk : Blk w b (ints smp) 3) :
    Calls Try.prog 12 #[.slice (some ⟨b, 0, none⟩) 6 6, .int .i64 60, .int .i64 5, .int .i64 10] w fun e w' => e = .returned (.tuple #[.agg #[.int .i64 9, .int .i64 2, .int .i64 19, .int .i64 4], .int .i64 0]) ∧ Below w.heap.size w w' := by
  have h := fa_any (some ⟨b, 0, none⟩) 6 6 smp 60 5 10 (by unfold maxLen; omega) w (Row.of_ints rfl hk)
  rw [show s1 (faS 60 smp 5 10) = 9 by kernel_rfl, show s2 (faS 60 smp 5 10) = 2 by kernel_rfl, show s3 (faS 60 smp 5 10) = 19 by kernel_rfl, show s4 (faS 60 smp 5 10) = 4 by kernel_rfl, show faE 60 smp 5 10 = 0 by kernel_rfl] at h
  exact h
theorem x_none (b : Nat) (w : World) (hk : Blk w b (ints smp) 3) :
    Calls Try.prog 9 #[.slice (some ⟨b, 0, none⟩) 6 6, .int .i64 111, .int .i64 0] w fun e w' => e = .returned (.tuple #[.agg #[.int .i64 0, .int .i64 0], .int .i64 6]) ∧ Below w.heap.size w w' := by
  have h := first_any (some ⟨b, 0, none⟩) 6 6 smp 111 0 (by unfold maxLen; omega) w (Row.of_ints rfl hk)
  rw [show oN (fiO 111 smp 0) = 0 by kernel_rfl, show oD (fiO 111 smp 0) = 0 by kernel_rfl, show fiE 111 smp 0 = 6 by kernel_rfl] at h
  exact h
theorem x_arg (b : Nat) (w : World) (hk : Blk w b (ints smp) 3) :
    Calls Try.prog 9 #[.slice (some ⟨b, 0, none⟩) 6 6, .int .i64 0, .int .i64 0] w fun e w' => e = .returned (.tuple #[.agg #[.int .i64 0, .int .i64 0], .int .i64 2]) ∧ Below w.heap.size w w' := by
  have h := first_any (some ⟨b, 0, none⟩) 6 6 smp 0 0 (by unfold maxLen; omega) w (Row.of_ints rfl hk)
  rw [show oN (fiO 0 smp 0) = 0 by kernel_rfl, show oD (fiO 0 smp 0) = 0 by kernel_rfl, show fiE 0 smp 0 = 2 by kernel_rfl] at h
  exact h
theorem x_rise (b : Nat) (w : World) (hk : Blk w b (ints smp) 3) :
    Calls Try.prog 13 #[.slice (some ⟨b, 0, none⟩) 6 6, .int .i64 105, .int .i64 0, .int .i64 10] w fun e w' => e = .returned (.tuple #[.agg #[.int .i64 0, .int .i64 0, .int .i64 0, .int .i64 0], .int .i64 6]) ∧ Below w.heap.size w w' := by
  have h := ri_any (some ⟨b, 0, none⟩) 6 6 smp 105 0 10 (by unfold maxLen; omega) w (Row.of_ints rfl hk)
  rw [show s1 (riS 105 smp 0 10) = 0 by kernel_rfl, show s2 (riS 105 smp 0 10) = 0 by kernel_rfl, show s3 (riS 105 smp 0 10) = 0 by kernel_rfl, show s4 (riS 105 smp 0 10) = 0 by kernel_rfl, show riE 105 smp 0 10 = 6 by kernel_rfl] at h
  exact h
theorem x_prof (b : Nat) (w : World) (hk : Blk w b #[.int .i64 1] 3) :
    Calls Try.prog 9 #[.slice (some ⟨b, 0, none⟩) 1 1, .int .i64 1, .int .i64 0] w fun e w' => e = .returned (.tuple #[.agg #[.int .i64 0, .int .i64 0], .int .i64 50]) ∧ Below w.heap.size w w' := by
  have h := first_any (some ⟨b, 0, none⟩) 1 1 [1] 1 0 (by unfold maxLen; omega) w (Row.of_ints rfl hk)
  rw [show oN (fiO 1 [1] 0) = 0 by kernel_rfl, show oD (fiO 1 [1] 0) = 0 by kernel_rfl, show fiE 1 [1] 0 = 50 by kernel_rfl] at h
  exact h
theorem x_dark (b : Nat) (w : World) (hk : Blk w b (ints smp) 3) :
    Calls Try.prog 19 #[.agg #[.int .i64 200, .int .i64 10, .int .i64 2, .int .i64 1, .int .i64 2, .int .i64 1, .int .i64 1, .int .i64 1, .int .i64 2, .int .i64 1], .slice (some ⟨b, 0, none⟩) 6 6] w fun e w' => e = .returned (.tuple #[.agg #[.int .i64 0, .int .i64 1, .int .i64 0, .int .i64 1], .int .u8 2, .int .i64 0]) ∧ Below w.heap.size w w' := by
  obtain ⟨Z1, Z2, Z3, Z4, V', E, H, h⟩ := mea_any 200 10 2 1 2 1 1 1 2 1 (some ⟨b, 0, none⟩) 6 6 smp (by unfold maxLen; omega) rfl
  have hg : okG 200 10 2 1 2 1 1 1 2 1 := ⟨by decide, by decide, okS_lit (mkR 2 1) (mkR 2 1) ⟨of_decide_eq_true (by kernel_rfl), of_decide_eq_true (by kernel_rfl), by kernel_rfl, by kernel_rfl, by kernel_rfl, by kernel_rfl, Rat.le_refl⟩, okS_lit (mkR 1 1) (mkR 2 1) ⟨of_decide_eq_true (by kernel_rfl), of_decide_eq_true (by kernel_rfl), by kernel_rfl, by kernel_rfl, by kernel_rfl, by kernel_rfl, of_decide_eq_true (by kernel_rfl)⟩, by decide, ⟨by decide, by decide⟩, ⟨by decide, by decide⟩, ⟨by decide, by decide⟩, ⟨by decide, by decide⟩⟩
  have hp : okP smp := by decide
  have e1 : WX 200 (lwL 10 smp) = none := by kernel_rfl
  have e3 : (if (FX 200 (upL 10 smp) 0).isSome then (3 : Int) else 2) = 2 := by kernel_rfl
  rcases h with ⟨k, _⟩ | ⟨_, k, _⟩ | ⟨-, -, rfl, ⟨-, -, rfl, rfl, rfl, rfl, rfl⟩ | ⟨x, y, sl, sh, tl, th, L, H', hx, _⟩⟩
  · exact absurd hg k
  · exact absurd hp k
  · have := H w (Row.of_ints rfl hk)
    rw [e3] at this
    exact this
  · rw [e1] at hx; cases hx
theorem x_open (b : Nat) (w : World) (hk : Blk w b (ints smp) 3) :
    Calls Try.prog 19 #[.agg #[.int .i64 105, .int .i64 10, .int .i64 2, .int .i64 1, .int .i64 2, .int .i64 1, .int .i64 1, .int .i64 1, .int .i64 2, .int .i64 1], .slice (some ⟨b, 0, none⟩) 6 6] w fun e w' => e = .returned (.tuple #[.agg #[.int .i64 0, .int .i64 1, .int .i64 0, .int .i64 1], .int .u8 3, .int .i64 0]) ∧ Below w.heap.size w w' := by
  obtain ⟨Z1, Z2, Z3, Z4, V', E, H, h⟩ := mea_any 105 10 2 1 2 1 1 1 2 1 (some ⟨b, 0, none⟩) 6 6 smp (by unfold maxLen; omega) rfl
  have hg : okG 105 10 2 1 2 1 1 1 2 1 := ⟨by decide, by decide, okS_lit (mkR 2 1) (mkR 2 1) ⟨of_decide_eq_true (by kernel_rfl), of_decide_eq_true (by kernel_rfl), by kernel_rfl, by kernel_rfl, by kernel_rfl, by kernel_rfl, Rat.le_refl⟩, okS_lit (mkR 1 1) (mkR 2 1) ⟨of_decide_eq_true (by kernel_rfl), of_decide_eq_true (by kernel_rfl), by kernel_rfl, by kernel_rfl, by kernel_rfl, by kernel_rfl, of_decide_eq_true (by kernel_rfl)⟩, by decide, ⟨by decide, by decide⟩, ⟨by decide, by decide⟩, ⟨by decide, by decide⟩, ⟨by decide, by decide⟩⟩
  have hp : okP smp := by decide
  have e1 : WX 105 (lwL 10 smp) = none := by kernel_rfl
  have e3 : (if (FX 105 (upL 10 smp) 0).isSome then (3 : Int) else 2) = 3 := by kernel_rfl
  rcases h with ⟨k, _⟩ | ⟨_, k, _⟩ | ⟨-, -, rfl, ⟨-, -, rfl, rfl, rfl, rfl, rfl⟩ | ⟨x, y, sl, sh, tl, th, L, H', hx, _⟩⟩
  · exact absurd hg k
  · exact absurd hp k
  · have := H w (Row.of_ints rfl hk)
    rw [e3] at this
    exact this
  · rw [e1] at hx; cases hx
theorem loPt (x : Rat) : loQ x [x, x, x] = x := by obtain ⟨-, -, -, -, e | e | e | e⟩ := loQ3 x x x x <;> exact e
theorem hiPt (x : Rat) : hiQ x [x, x, x] = x := by obtain ⟨-, -, -, -, e | e | e | e⟩ := hiQ3 x x x x <;> exact e
/-- An operation on points whose result fits. -/
def PtIs (F : FuncId) (a b c : Rat) : Prop := ∀ w, Calls Try.prog F #[.agg (spI a a), .agg (spI b b)] w fun e w' => e = .returned (.tuple #[.agg (spI c c), .int .i64 0]) ∧ Below w.heap.size w w'
theorem pt_mul (a b c : Rat) (fa : fits a) (fb : fits b) (fc : fits c) (hc : a * b = c) : PtIs 51 a b c := by
  intro w
  have h := mulSpans_q a a b b fa fa fb fb Rat.le_refl Rat.le_refl w
  rw [hc, loPt, hiPt, oz_yes ⟨fc, fc, fc, fc⟩, oz_yes ⟨fc, fc, fc, fc⟩, oe_yes ⟨fc, fc, fc, fc⟩] at h
  exact h
theorem pt_add (a b c : Rat) (fa : fits a) (fb : fits b) (fc : fits c) (hc : a + b = c) : PtIs 84 a b c := by
  intro w
  have h := addSpans_q a a b b fa fa fb fb Rat.le_refl Rat.le_refl w
  rw [hc, oz_yes ⟨fc, fc⟩, oz_yes ⟨fc, fc⟩, oe_yes ⟨fc, fc⟩] at h
  exact h
theorem pt_sub (a b c : Rat) (fa : fits a) (fb : fits b) (fc : fits c) (hc : a - b = c) : PtIs 82 a b c := by
  intro w
  have h := subSpans_q a a b b fa fa fb fb Rat.le_refl Rat.le_refl w
  rw [hc, oz_yes ⟨fc, fc⟩, oz_yes ⟨fc, fc⟩, oe_yes ⟨fc, fc⟩] at h
  exact h
theorem pt_div (a b c : Rat) (fa : fits a) (fb : fits b) (fc : fits c) (hz : hasQ b b 0 = false) (hc : a * b⁻¹ = c) : PtIs 85 a b c := by
  intro w
  have h := divSpans_q a a b b fa fa fb fb Rat.le_refl Rat.le_refl hz w
  rw [hc, loPt, hiPt, oz_yes ⟨fc, fc, fc, fc⟩, oz_yes ⟨fc, fc, fc, fc⟩, oe_yes ⟨fc, fc, fc, fc⟩] at h
  exact h
end Go.Proofs.Ytdimmnoflenfhaa
/-
  Layer 5: corners at the lines of the law GaugeExamples.
-/
namespace Go.Proofs.Ytdimmnoflenfhaa
open Go.RowKit Go.Shelf
set_option linter.unusedVariables false
set_option linter.unusedSimpArgs false

theorem num0 : fn (0 : Rat) = 0 := by kernel_rfl
theorem den0 : fd (0 : Rat) = 1 := by kernel_rfl
theorem fit0 : fits (0 : Rat) := of_decide_eq_true (by kernel_rfl)
theorem num1 : fn (1 : Rat) = 1 := by kernel_rfl
theorem den1 : fd (1 : Rat) = 1 := by kernel_rfl
theorem fit1 : fits (1 : Rat) := of_decide_eq_true (by kernel_rfl)
theorem num3 : fn (3 : Rat) = 3 := by kernel_rfl
theorem den3 : fd (3 : Rat) = 1 := by kernel_rfl
theorem fit3 : fits (3 : Rat) := of_decide_eq_true (by kernel_rfl)
theorem num5 : fn (5 : Rat) = 5 := by kernel_rfl
theorem den5 : fd (5 : Rat) = 1 := by kernel_rfl
theorem fit5 : fits (5 : Rat) := of_decide_eq_true (by kernel_rfl)
theorem x_meet (w : World) : Calls Try.prog 17 #[.agg #[.int .i64 0, .int .i64 1, .int .i64 0, .int .i64 1, .int .i64 3, .int .i64 1, .int .i64 3, .int .i64 1], .agg #[.int .i64 0, .int .i64 1, .int .i64 0, .int .i64 1, .int .i64 5, .int .i64 1, .int .i64 5, .int .i64 1]] w fun e w' => e = .returned (.tuple #[.agg #[.int .i64 3, .int .i64 1, .int .i64 3, .int .i64 1], .agg #[.int .i64 5, .int .i64 1, .int .i64 5, .int .i64 1], .int .i64 0]) ∧ Below w.heap.size w w' := by
  have k0 : Hid (∀ w, Calls Try.prog 46 #[.agg #[.int .i64 0, .int .i64 1, .int .i64 0, .int .i64 1]] w fun e w' => e = .returned (.int .i64 0) ∧ Below w.heap.size w w') := fun w => by
    have h := checkSpan_any 0 1 0 1 w
    have h0 := ckS_ok (q := (0 : Rat)) (r := (0 : Rat)) fit0 fit0 Rat.le_refl
    simp only [num0, den0, num1, den1, num3, den3, num5, den5] at h0
    rw [h0] at h
    exact h
  have k3 : Hid (∀ w, Calls Try.prog 46 #[.agg #[.int .i64 3, .int .i64 1, .int .i64 3, .int .i64 1]] w fun e w' => e = .returned (.int .i64 0) ∧ Below w.heap.size w w') := fun w => by
    have h := checkSpan_any 3 1 3 1 w
    have h0 := ckS_ok (q := (3 : Rat)) (r := (3 : Rat)) fit3 fit3 Rat.le_refl
    simp only [num0, den0, num1, den1, num3, den3, num5, den5] at h0
    rw [h0] at h
    exact h
  have k5 : Hid (∀ w, Calls Try.prog 46 #[.agg #[.int .i64 5, .int .i64 1, .int .i64 5, .int .i64 1]] w fun e w' => e = .returned (.int .i64 0) ∧ Below w.heap.size w w') := fun w => by
    have h := checkSpan_any 5 1 5 1 w
    have h0 := ckS_ok (q := (5 : Rat)) (r := (5 : Rat)) fit5 fit5 Rat.le_refl
    simp only [num0, den0, num1, den1, num3, den3, num5, den5] at h0
    rw [h0] at h
    exact h
  have ca : ∀ w, Calls Try.prog 51 #[.agg #[.int .i64 0, .int .i64 1, .int .i64 0, .int .i64 1], .agg #[.int .i64 0, .int .i64 1, .int .i64 0, .int .i64 1]] w fun e w' => e = .returned (.tuple #[.agg #[.int .i64 0, .int .i64 1, .int .i64 0, .int .i64 1], .int .i64 0]) ∧ Below w.heap.size w w' := by
    have h := pt_mul 0 0 0 fit0 fit0 fit0 (by kernel_rfl)
    simp only [PtIs, spI, num0, den0, num1, den1, num3, den3, num5, den5] at h
    exact h
  have cb : ∀ w, Calls Try.prog 82 #[.agg #[.int .i64 1, .int .i64 1, .int .i64 1, .int .i64 1], .agg #[.int .i64 0, .int .i64 1, .int .i64 0, .int .i64 1]] w fun e w' => e = .returned (.tuple #[.agg #[.int .i64 1, .int .i64 1, .int .i64 1, .int .i64 1], .int .i64 0]) ∧ Below w.heap.size w w' := by
    have h := pt_sub 1 0 1 fit1 fit0 fit1 (by kernel_rfl)
    simp only [PtIs, spI, num0, den0, num1, den1, num3, den3, num5, den5] at h
    exact h
  have hi : ∀ w, Calls Try.prog 83 #[.agg #[.int .i64 1, .int .i64 1, .int .i64 1, .int .i64 1], .agg #[.int .i64 0, .int .i64 1]] w fun e w' => e = .returned (.tuple #[.bool false, .int .i64 0]) ∧ Below w.heap.size w w' := by
    have h := in_q 1 1 0 fit1 fit1 fit0 Rat.le_refl
    simp only [num0, den0, num1, den1, num3, den3, num5, den5, show hasQ (1 : Rat) 1 0 = false by kernel_rfl] at h
    exact h
  have ma : ∀ w, Calls Try.prog 51 #[.agg #[.int .i64 0, .int .i64 1, .int .i64 0, .int .i64 1], .agg #[.int .i64 5, .int .i64 1, .int .i64 5, .int .i64 1]] w fun e w' => e = .returned (.tuple #[.agg #[.int .i64 0, .int .i64 1, .int .i64 0, .int .i64 1], .int .i64 0]) ∧ Below w.heap.size w w' := by
    have h := pt_mul 0 5 0 fit0 fit5 fit0 (by kernel_rfl)
    simp only [PtIs, spI, num0, den0, num1, den1, num3, den3, num5, den5] at h
    exact h
  have mb : ∀ w, Calls Try.prog 84 #[.agg #[.int .i64 3, .int .i64 1, .int .i64 3, .int .i64 1], .agg #[.int .i64 0, .int .i64 1, .int .i64 0, .int .i64 1]] w fun e w' => e = .returned (.tuple #[.agg #[.int .i64 3, .int .i64 1, .int .i64 3, .int .i64 1], .int .i64 0]) ∧ Below w.heap.size w w' := by
    have h := pt_add 3 0 3 fit3 fit0 fit3 (by kernel_rfl)
    simp only [PtIs, spI, num0, den0, num1, den1, num3, den3, num5, den5] at h
    exact h
  have mc : ∀ w, Calls Try.prog 85 #[.agg #[.int .i64 3, .int .i64 1, .int .i64 3, .int .i64 1], .agg #[.int .i64 1, .int .i64 1, .int .i64 1, .int .i64 1]] w fun e w' => e = .returned (.tuple #[.agg #[.int .i64 3, .int .i64 1, .int .i64 3, .int .i64 1], .int .i64 0]) ∧ Below w.heap.size w w' := by
    have h := pt_div 3 1 3 fit3 fit1 fit3 (by kernel_rfl) (by kernel_rfl)
    simp only [PtIs, spI, num0, den0, num1, den1, num3, den3, num5, den5] at h
    exact h
  have na : ∀ w, Calls Try.prog 51 #[.agg #[.int .i64 0, .int .i64 1, .int .i64 0, .int .i64 1], .agg #[.int .i64 3, .int .i64 1, .int .i64 3, .int .i64 1]] w fun e w' => e = .returned (.tuple #[.agg #[.int .i64 0, .int .i64 1, .int .i64 0, .int .i64 1], .int .i64 0]) ∧ Below w.heap.size w w' := by
    have h := pt_mul 0 3 0 fit0 fit3 fit0 (by kernel_rfl)
    simp only [PtIs, spI, num0, den0, num1, den1, num3, den3, num5, den5] at h
    exact h
  have nb : ∀ w, Calls Try.prog 84 #[.agg #[.int .i64 5, .int .i64 1, .int .i64 5, .int .i64 1], .agg #[.int .i64 0, .int .i64 1, .int .i64 0, .int .i64 1]] w fun e w' => e = .returned (.tuple #[.agg #[.int .i64 5, .int .i64 1, .int .i64 5, .int .i64 1], .int .i64 0]) ∧ Below w.heap.size w w' := by
    have h := pt_add 5 0 5 fit5 fit0 fit5 (by kernel_rfl)
    simp only [PtIs, spI, num0, den0, num1, den1, num3, den3, num5, den5] at h
    exact h
  have nc : ∀ w, Calls Try.prog 85 #[.agg #[.int .i64 5, .int .i64 1, .int .i64 5, .int .i64 1], .agg #[.int .i64 1, .int .i64 1, .int .i64 1, .int .i64 1]] w fun e w' => e = .returned (.tuple #[.agg #[.int .i64 5, .int .i64 1, .int .i64 5, .int .i64 1], .int .i64 0]) ∧ Below w.heap.size w w' := by
    have h := pt_div 5 1 5 fit5 fit1 fit5 (by kernel_rfl) (by kernel_rfl)
    simp only [PtIs, spI, num0, den0, num1, den1, num3, den3, num5, den5] at h
    exact h
  have HD := fun w => divisor_4 0 1 0 1 3 1 3 1 0 1 0 1 5 1 5 1 1 1 1 1 0 1 0 1 1 1 1 1 0 0 0 0 0 w (Lib.hid ca) (Lib.hid cb) (Lib.hid hi)
  have cx := fun w => meeting_3 0 1 0 1 3 1 3 1 0 1 0 1 5 1 5 1 1 1 1 1 0 1 0 1 3 1 3 1 3 1 3 1 0 w (Lib.hid ma) (Lib.hid mb) (Lib.hid mc)
  have cy := fun w => meeting_3 0 1 0 1 5 1 5 1 0 1 0 1 3 1 3 1 1 1 1 1 0 1 0 1 5 1 5 1 5 1 5 1 0 w (Lib.hid na) (Lib.hid nb) (Lib.hid nc)
  exact corner_4 0 1 0 1 3 1 3 1 0 1 0 1 5 1 5 1 1 1 1 1 0 1 0 1 1 1 1 1 0 0 0 0 0 0 0 0 0 3 1 3 1 5 1 5 1 w k0 k3 k0 k5 (Lib.hid HD) (Lib.hid cx) (Lib.hid cy)
theorem x_flat (w : World) : Calls Try.prog 17 #[.agg #[.int .i64 1, .int .i64 1, .int .i64 1, .int .i64 1, .int .i64 3, .int .i64 1, .int .i64 3, .int .i64 1], .agg #[.int .i64 1, .int .i64 1, .int .i64 1, .int .i64 1, .int .i64 5, .int .i64 1, .int .i64 5, .int .i64 1]] w fun e w' => e = .returned (.tuple #[.agg #[.int .i64 0, .int .i64 0, .int .i64 0, .int .i64 0], .agg #[.int .i64 0, .int .i64 0, .int .i64 0, .int .i64 0], .int .i64 6]) ∧ Below w.heap.size w w' := by
  have k1 : Hid (∀ w, Calls Try.prog 46 #[.agg #[.int .i64 1, .int .i64 1, .int .i64 1, .int .i64 1]] w fun e w' => e = .returned (.int .i64 0) ∧ Below w.heap.size w w') := fun w => by
    have h := checkSpan_any 1 1 1 1 w
    have h0 := ckS_ok (q := (1 : Rat)) (r := (1 : Rat)) fit1 fit1 Rat.le_refl
    simp only [num0, den0, num1, den1, num3, den3, num5, den5] at h0
    rw [h0] at h
    exact h
  have k3 : Hid (∀ w, Calls Try.prog 46 #[.agg #[.int .i64 3, .int .i64 1, .int .i64 3, .int .i64 1]] w fun e w' => e = .returned (.int .i64 0) ∧ Below w.heap.size w w') := fun w => by
    have h := checkSpan_any 3 1 3 1 w
    have h0 := ckS_ok (q := (3 : Rat)) (r := (3 : Rat)) fit3 fit3 Rat.le_refl
    simp only [num0, den0, num1, den1, num3, den3, num5, den5] at h0
    rw [h0] at h
    exact h
  have k5 : Hid (∀ w, Calls Try.prog 46 #[.agg #[.int .i64 5, .int .i64 1, .int .i64 5, .int .i64 1]] w fun e w' => e = .returned (.int .i64 0) ∧ Below w.heap.size w w') := fun w => by
    have h := checkSpan_any 5 1 5 1 w
    have h0 := ckS_ok (q := (5 : Rat)) (r := (5 : Rat)) fit5 fit5 Rat.le_refl
    simp only [num0, den0, num1, den1, num3, den3, num5, den5] at h0
    rw [h0] at h
    exact h
  have ca : ∀ w, Calls Try.prog 51 #[.agg #[.int .i64 1, .int .i64 1, .int .i64 1, .int .i64 1], .agg #[.int .i64 1, .int .i64 1, .int .i64 1, .int .i64 1]] w fun e w' => e = .returned (.tuple #[.agg #[.int .i64 1, .int .i64 1, .int .i64 1, .int .i64 1], .int .i64 0]) ∧ Below w.heap.size w w' := by
    have h := pt_mul 1 1 1 fit1 fit1 fit1 (by kernel_rfl)
    simp only [PtIs, spI, num0, den0, num1, den1, num3, den3, num5, den5] at h
    exact h
  have cb : ∀ w, Calls Try.prog 82 #[.agg #[.int .i64 1, .int .i64 1, .int .i64 1, .int .i64 1], .agg #[.int .i64 1, .int .i64 1, .int .i64 1, .int .i64 1]] w fun e w' => e = .returned (.tuple #[.agg #[.int .i64 0, .int .i64 1, .int .i64 0, .int .i64 1], .int .i64 0]) ∧ Below w.heap.size w w' := by
    have h := pt_sub 1 1 0 fit1 fit1 fit0 (by kernel_rfl)
    simp only [PtIs, spI, num0, den0, num1, den1, num3, den3, num5, den5] at h
    exact h
  have hi : ∀ w, Calls Try.prog 83 #[.agg #[.int .i64 0, .int .i64 1, .int .i64 0, .int .i64 1], .agg #[.int .i64 0, .int .i64 1]] w fun e w' => e = .returned (.tuple #[.bool true, .int .i64 0]) ∧ Below w.heap.size w w' := by
    have h := in_q 0 0 0 fit0 fit0 fit0 Rat.le_refl
    simp only [num0, den0, num1, den1, num3, den3, num5, den5, show hasQ (0 : Rat) 0 0 = true by kernel_rfl] at h
    exact h
  exact corner_1 1 1 1 1 3 1 3 1 1 1 1 1 5 1 5 1 0 0 0 0 1 1 1 1 0 1 0 1 0 0 0 0 6 0 0 0 0 0 0 0 0 0 0 0 0 w rfl k1 k3 k1 k5 (Lib.hid fun w => divisor_3 1 1 1 1 3 1 3 1 1 1 1 1 5 1 5 1 0 0 0 0 1 1 1 1 0 1 0 1 0 0 0 0 0 w (Lib.hid ca) (Lib.hid cb) (Lib.hid hi))
theorem ret_x {P : Program} {fn : Func} {R : Ending → World → Prop} {a : Act} {W : World} {v : Value} {b2 : Nat} {c2 : Array Value} {t : TypeId} (k2 : Blk W b2 c2 t)
    (h : (∀ i : Nat, W.cell? ⟨b2, i, none⟩ = c2[i]?) → (results fn a.tmps).run P W = .ok v W) (hd : a.defers = []) (hR : R (.returned v) W) : bodyPost P fn R .ret a W :=
  bodyPost_ret (h k2.cells) hd hR
set_option maxHeartbeats 1000000 in
theorem x_one (n : Int) (h1 : mA n 1 = n ∧ mB n 1 = 1) (b1 : -1000 ≤ n ∧ n ≤ 1000) (w : World) :
    Calls Try.prog 16 #[.int .i64 n] w fun e w' => e = .returned (.agg #[.int .i64 n, .int .i64 1, .int .i64 n, .int .i64 1]) ∧ Below w.heap.size w w' := by
  have H1 := Lib.hid (frac_lit n 1 h1 ⟨b1.1, b1.2, by decide, by decide⟩)
  clear h1
  go_enter Try.func16, Try.ntmps16
  go_wp2_with fail
  refine (H1.out _).mono ?_
  rintro e w1 ⟨rfl, hb⟩
  have k0 : Blk w1 w.heap.size #[.int .i64 0, .int .i64 0, .int .i64 0, .int .i64 0] 30 := Blk.later hb (by (repeat' (first | (with_reducible assumption) | ((with_reducible refine Blk.new ?_); first | rfl | (simp; done)) | (with_reducible refine Blk.later (by assumption) ?_) | (with_reducible refine Blk.alloc ?_) | (with_reducible refine Blk.drewN ?_) | (with_reducible refine Blk.drew ?_) | (with_reducible refine Blk.other ?_ (by first | omega | (simp; done) | (simp; omega))))))
  have hB : Below w.heap.size w w1 := by (repeat' (first | (with_reducible exact Below.refl _ _) | (with_reducible assumption) | (with_reducible refine belowThru ?_ (by assumption)) | (with_reducible refine belowAlloc ?_) | (with_reducible refine Below.setCell ?_ (by first | omega | (simp; done) | (simp; omega)) _) | (with_reducible refine Below.drew ?_) | (with_reducible refine below_drewN ?_ _)))
  clear hb
  go_wp2_with fail
  refine (H1.out _).mono ?_
  rintro e w2 ⟨rfl, hb⟩
  replace k0 := Blk.later hb k0
  replace hB := belowThru hB hb
  clear hb
  obtain ⟨a0, b0⟩ := k0.read
  go_wp2
  have k0s := Blk.set4 (v0 := .int .i64 n) (v1 := .int .i64 1) (v2 := .int .i64 n) (v3 := .int .i64 1) k0
  exact ret_x (v := .agg #[.int .i64 n, .int .i64 1, .int .i64 n, .int .i64 1]) k0s (fun ra => by clear a0 b0; simp only [results, Try.results16]; go_simp) rfl ⟨rfl, by (repeat' (first | (with_reducible exact Below.refl _ _) | (with_reducible assumption) | (with_reducible refine belowThru ?_ (by assumption)) | (with_reducible refine belowAlloc ?_) | (with_reducible refine Below.setCell ?_ (by first | omega | (simp; done) | (simp; omega)) _) | (with_reducible refine Below.drew ?_) | (with_reducible refine below_drewN ?_ _)))⟩
end Go.Proofs.Ytdimmnoflenfhaa
