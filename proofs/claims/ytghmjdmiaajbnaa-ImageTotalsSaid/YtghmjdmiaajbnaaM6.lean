/-
  The texts that the laws of this seat share, merged: part 6.
-/
import Derived.BigQuiet
import Derived.Deep.CutRange
import Derived.Deep.DeepCutAuto
import Derived.Deep.Draws
import Derived.Deep.OwnRows
import Derived.Deep.QuietTactic
import Derived.Deep.RegionHeld3
import Derived.Laws.AppendOwn
import Derived.Lib.Hide
import Derived.LoopIn
import Derived.LoopNIn
import Derived.Maps.AppendAt
import Derived.OneCell
import Derived.Orders
import Derived.OwnWalkIn
import Derived.RangeFuncBound
import Derived.RangeFuncCalls
import Derived.RangeFuncLeaves
import Derived.RangeFuncNested
import Derived.Shelf.Abstract
import Derived.Shelf.AbstractIn
import Derived.Shelf.RegionOpen
import Derived.StillTailTactics
import Derived.TacticsInMore
import Derived.Test.YtghmjdmiaajbnaaProg
import Derived.WalkKit
import Derived.WalkSmall
import Derived.WalkSpells
import Derived.Test.YtghmjdmiaajbnaaM5
/-
  Layer 2: sums: all answers of both sides.
-/
namespace Go.Proofs.Ytghmjdmiaajbnaa
open Go.RowKit Go.Shelf
set_option linter.unusedVariables false
set_option linter.unusedSimpArgs false

theorem row_vals {W H : Int} {zs : List Int} (hI : okI W H zs) {a : Option Addr} {n : Nat} {w : World} (hR : Row w a n (iv zs)) :
    ∃ bb off, a = some ⟨bb, off, none⟩ ∧ bb < w.heap.size ∧ zs.length = n ∧ ∀ j, j < n → ∃ z, ValR zs j z ∧ w.cell? ⟨bb, off + j, none⟩ = some (.int .i64 z) := by
  have hlen : zs.length = n := by have := hR.1; rwa [iv_length] at this
  have hm := okS_mul hI.1.1 hI.1.2
  have hL := hI.2.1
  obtain ⟨bb, off, rfl, hb, hc⟩ := hR.2 (by omega)
  refine ⟨bb, off, rfl, hb, hlen, fun j hj => ?_⟩
  have hz : zs[j]? = some zs[j] := List.getElem?_eq_getElem (by omega)
  exact ⟨zs[j], ⟨hz, hI.2.2 _ (List.getElem_mem _)⟩, by rw [hc j hj, iv_get, hz]; rfl⟩
theorem ck_ok {W H : Int} {zs : List Int} (hI : okI W H zs) {a : Option Addr} {n c : Nat} (hn : n ≤ maxLen) {w : World} (hR : Row w a n (iv zs)) : Hid (∀ w1, Below w.heap.size w w1 → Calls Try.prog 51 #[.agg #[.int .i64 W, .int .i64 H, .slice a n c]] w1 fun e w' => e = .returned (.int .i64 0) ∧ Below w1.heap.size w1 w') :=
  fun w1 hb => by have := icheck_any W H a n c zs hn w1 (hR.later hb); rwa [ckI_ok hI] at this
theorem sides_nat {W H : Int} {zs : List Int} (hI : okI W H zs) : ∃ Wn Hn : Nat, W = (Wn : Int) ∧ H = (Hn : Int) ∧ Wn ≤ 16 ∧ Hn ≤ 16 ∧ 0 < Wn ∧ 0 < Hn ∧ zs.length = Wn * Hn := by
  have hs := hI.1
  unfold okS at hs
  have hL := hI.2.1
  refine ⟨W.toNat, H.toNat, by omega, by omega, by omega, by omega, by omega, by omega, ?_⟩
  have e : ((W.toNat * H.toNat : Nat) : Int) = W * H := by rw [Int.natCast_mul, Int.toNat_of_nonneg (by omega), Int.toNat_of_nonneg (by omega)]
  omega
set_option maxHeartbeats 1000000 in
theorem rowsF_any (px py : Int) (w : World) : Calls Try.prog 75 #[.agg #[.int .i64 px, .int .i64 py]] w fun e w' => e = .returned (.int .i64 py) ∧ Below w.heap.size w w' := by
  go_enter Try.func75, Try.ntmps75
  go_wp2
  go_ret
  exact ⟨rfl, by (repeat' (first | (with_reducible exact Below.refl _ _) | (with_reducible assumption) | (with_reducible refine belowThru ?_ (by assumption)) | (with_reducible refine belowAlloc ?_) | (with_reducible refine Below.setCell ?_ (by first | omega | (simp; done) | (simp; omega)) _) | (with_reducible refine Below.drew ?_) | (with_reducible refine below_drewN ?_ _)))⟩
set_option maxHeartbeats 1000000 in
theorem colsF_any (px py : Int) (w : World) : Calls Try.prog 76 #[.agg #[.int .i64 px, .int .i64 py]] w fun e w' => e = .returned (.int .i64 px) ∧ Below w.heap.size w w' := by
  go_enter Try.func76, Try.ntmps76
  go_wp2
  go_ret
  exact ⟨rfl, by (repeat' (first | (with_reducible exact Below.refl _ _) | (with_reducible assumption) | (with_reducible refine belowThru ?_ (by assumption)) | (with_reducible refine belowAlloc ?_) | (with_reducible refine Below.setCell ?_ (by first | omega | (simp; done) | (simp; omega)) _) | (with_reducible refine Below.drew ?_) | (with_reducible refine below_drewN ?_ _)))⟩

set_option maxHeartbeats 1000000 in
theorem irows_walk (W H : Int) (a : Option Addr) (n c : Nat) (ls : List Int) (er : Int) (w : World) (HS : Hid (∀ w1, Below w.heap.size w w1 → Calls Try.prog 74 #[.agg #[.int .i64 W, .int .i64 H, .slice a n c], .int .i64 H, .func (.func 75) #[] #[]] w1 (RetL ls er w1))) :
    Calls Try.prog 28 #[.agg #[.int .i64 W, .int .i64 H, .slice a n c]] w (RetL ls er w) := by
  have HS1 : Hid (∃ l, ls.length = l ∧ ∀ w1, Below w.heap.size w w1 → Calls Try.prog 74 #[.agg #[.int .i64 W, .int .i64 H, .slice a n c], .int .i64 H, .func (.func 75) #[] #[]] w1 fun e w' => ∃ (v : Option Addr) (c : Nat), e = .returned (.tuple #[.slice v l c, .int .i64 er]) ∧ Row w' v l (iv ls) ∧ Below w1.heap.size w1 w') := ⟨_, rfl, fun w1 h => HS.out w1 h⟩
  obtain ⟨l, hl, HS2⟩ := HS1.out
  have HS3 := Lib.hid HS2
  have HL := Lib.hid hl
  clear HS HS1 HS2 hl
  go_enter Try.func28, Try.ntmps28
  go_wp2_with (go_at_call 74; (with_reducible refine (HS3.out _ (by (repeat' (first | (with_reducible exact Below.refl _ _) | (with_reducible assumption) | (with_reducible refine belowThru ?_ (by assumption)) | (with_reducible refine belowAlloc ?_) | (with_reducible refine Below.setCell ?_ (by first | omega | (simp; done) | (simp; omega)) _) | (with_reducible refine Below.drew ?_) | (with_reducible refine below_drewN ?_ _))))).mono ?_); rintro e w1 ⟨v, c', rfl, hr, hb⟩; have HQ := Lib.hid hr; clear hr)
  go_ret2
  exact ⟨v, c', by rw [HL.out]; rfl, by rw [HL.out]; exact HQ.out, by (repeat' (first | (with_reducible exact Below.refl _ _) | (with_reducible assumption) | (with_reducible refine belowThru ?_ (by assumption)) | (with_reducible refine belowAlloc ?_) | (with_reducible refine Below.setCell ?_ (by first | omega | (simp; done) | (simp; omega)) _) | (with_reducible refine Below.drew ?_) | (with_reducible refine below_drewN ?_ _)))⟩

set_option maxHeartbeats 1000000 in
theorem icols_walk (W H : Int) (a : Option Addr) (n c : Nat) (ls : List Int) (er : Int) (w : World) (HS : Hid (∀ w1, Below w.heap.size w w1 → Calls Try.prog 74 #[.agg #[.int .i64 W, .int .i64 H, .slice a n c], .int .i64 W, .func (.func 76) #[] #[]] w1 (RetL ls er w1))) :
    Calls Try.prog 29 #[.agg #[.int .i64 W, .int .i64 H, .slice a n c]] w (RetL ls er w) := by
  have HS1 : Hid (∃ l, ls.length = l ∧ ∀ w1, Below w.heap.size w w1 → Calls Try.prog 74 #[.agg #[.int .i64 W, .int .i64 H, .slice a n c], .int .i64 W, .func (.func 76) #[] #[]] w1 fun e w' => ∃ (v : Option Addr) (c : Nat), e = .returned (.tuple #[.slice v l c, .int .i64 er]) ∧ Row w' v l (iv ls) ∧ Below w1.heap.size w1 w') := ⟨_, rfl, fun w1 h => HS.out w1 h⟩
  obtain ⟨l, hl, HS2⟩ := HS1.out
  have HS3 := Lib.hid HS2
  have HL := Lib.hid hl
  clear HS HS1 HS2 hl
  go_enter Try.func29, Try.ntmps29
  go_wp2_with (go_at_call 74; (with_reducible refine (HS3.out _ (by (repeat' (first | (with_reducible exact Below.refl _ _) | (with_reducible assumption) | (with_reducible refine belowThru ?_ (by assumption)) | (with_reducible refine belowAlloc ?_) | (with_reducible refine Below.setCell ?_ (by first | omega | (simp; done) | (simp; omega)) _) | (with_reducible refine Below.drew ?_) | (with_reducible refine below_drewN ?_ _))))).mono ?_); rintro e w1 ⟨v, c', rfl, hr, hb⟩; have HQ := Lib.hid hr; clear hr)
  go_ret2
  exact ⟨v, c', by rw [HL.out]; rfl, by rw [HL.out]; exact HQ.out, by (repeat' (first | (with_reducible exact Below.refl _ _) | (with_reducible assumption) | (with_reducible refine belowThru ?_ (by assumption)) | (with_reducible refine belowAlloc ?_) | (with_reducible refine Below.setCell ?_ (by first | omega | (simp; done) | (simp; omega)) _) | (with_reducible refine Below.drew ?_) | (with_reducible refine below_drewN ?_ _)))⟩

theorem irows_ok (W H : Int) (Wn Hn : Nat) (hWn : W = (Wn : Int)) (hHn : H = (Hn : Int)) (a : Option Addr) (n c : Nat) (zs : List Int) (hI : okI W H zs) (hn : n ≤ maxLen) (w : World) (hR : Row w a n (iv zs)) :
    Calls Try.prog 28 #[.agg #[.int .i64 W, .int .i64 H, .slice a n c]] w (RetL ((List.range Hn).map fun k => boxN Wn zs 0 k Wn (k + 1)) 0 w) := by
  have hs := hI.1
  unfold okS at hs
  refine irows_walk W H a n c _ 0 w (Lib.hid fun w1 hb => ?_)
  obtain ⟨bb, off, rfl, hb1, hlen, hc⟩ := row_vals hI (hR.later hb)
  have hmn : n = Wn * Hn := by have := hI.2.1; rw [hWn, hHn, ← Int.natCast_mul] at this; omega
  have h := (callsIn_wide (n := 9)).1 (sums_in 9 (by omega) W H 75 Hn (fun k => k / Wn) bb off n c zs hI hlen (fun k hk => Nat.div_lt_of_lt_mul (by omega)) (by omega) (fun _ _ => by kernel_rfl) w1 hb1 hc
    (Lib.hid fun k hk w => by have := rowsF_any ((k : Int) % W) ((k : Int) / W) w; rw [hWn] at this ⊢; exact this) (ck_ok hI hn (hR.later hb)))
  rw [hHn] at h ⊢
  refine h.mono ?_
  rintro e w' ⟨g, rfl, -, hk, hB⟩
  have e : ((List.range Hn).map fun j => sumN (fun i => if i / Wn = j then zs[i]?.getD 0 else 0) n) = (List.range Hn).map fun k => boxN Wn zs 0 k Wn (k + 1) := List.map_congr_left fun j hj => by
    rw [hmn]; exact row_all Wn Hn zs j (List.mem_range.1 hj)
  rw [e] at hk
  exact retL_blk (by simp) hk hB
theorem icols_ok (W H : Int) (Wn Hn : Nat) (hWn : W = (Wn : Int)) (hHn : H = (Hn : Int)) (a : Option Addr) (n c : Nat) (zs : List Int) (hI : okI W H zs) (hn : n ≤ maxLen) (w : World) (hR : Row w a n (iv zs)) :
    Calls Try.prog 29 #[.agg #[.int .i64 W, .int .i64 H, .slice a n c]] w (RetL ((List.range Wn).map fun k => boxN Wn zs k 0 (k + 1) Hn) 0 w) := by
  have hs := hI.1
  unfold okS at hs
  refine icols_walk W H a n c _ 0 w (Lib.hid fun w1 hb => ?_)
  obtain ⟨bb, off, rfl, hb1, hlen, hc⟩ := row_vals hI (hR.later hb)
  have hmn : n = Wn * Hn := by have := hI.2.1; rw [hWn, hHn, ← Int.natCast_mul] at this; omega
  have h := (callsIn_wide (n := 9)).1 (sums_in 9 (by omega) W H 76 Wn (fun k => k % Wn) bb off n c zs hI hlen (fun k hk => Nat.mod_lt _ (by omega)) (by omega) (fun _ _ => by kernel_rfl) w1 hb1 hc
    (Lib.hid fun k hk w => by have := colsF_any ((k : Int) % W) ((k : Int) / W) w; rw [hWn] at this ⊢; exact this) (ck_ok hI hn (hR.later hb)))
  rw [hWn] at h ⊢
  refine h.mono ?_
  rintro e w' ⟨g, rfl, -, hk, hB⟩
  have e : ((List.range Wn).map fun j => sumN (fun i => if i % Wn = j then zs[i]?.getD 0 else 0) n) = (List.range Wn).map fun k => boxN Wn zs k 0 (k + 1) Hn := List.map_congr_left fun j hj => by
    rw [hmn]; exact col_all Wn Hn zs j (List.mem_range.1 hj)
  rw [e] at hk
  exact retL_blk (by simp) hk hB
theorem iinteg_ok (W H : Int) (Wn Hn : Nat) (hWn : W = (Wn : Int)) (hHn : H = (Hn : Int)) (a : Option Addr) (n c : Nat) (zs : List Int) (hI : okI W H zs) (hn : n ≤ maxLen) (w : World) (hR : Row w a n (iv zs)) :
    Calls Try.prog 30 #[.agg #[.int .i64 W, .int .i64 H, .slice a n c]] w (RetL ((List.range ((Wn + 1) * (Hn + 1))).map fun q => boxN Wn zs 0 0 (q % (Wn + 1)) (q / (Wn + 1))) 0 w) := by
  obtain ⟨bb, off, rfl, hb1, hlen, hc⟩ := row_vals hI hR
  refine ((callsIn_wide (n := 9)).1 (integ_in 9 (by omega) W H Wn Hn _ hWn hHn rfl bb off n c zs hI hlen w hb1 hc (ck_ok hI hn hR))).mono ?_
  rintro e w' ⟨g, rfl, -, hk, hB⟩
  exact retL_blk (by simp) hk hB
/-- A rectangle of an image. -/
def okB (W H x0 y0 x1 y1 : Int) : Prop := (0 ≤ x0 ∧ x0 ≤ x1 ∧ x1 ≤ W) ∧ 0 ≤ y0 ∧ y0 ≤ y1 ∧ y1 ≤ H
theorem ibox_ok (W H : Int) (Wn Hn x0 y0 x1 y1 : Nat) (hWn : W = (Wn : Int)) (hHn : H = (Hn : Int)) (a : Option Addr) (n c : Nat) (zs : List Int) (hI : okI W H zs) (hB : okB W H x0 y0 x1 y1) (hn : n ≤ maxLen) (w : World) (hR : Row w a n (iv zs)) :
    Calls Try.prog 48 #[.agg #[.int .i64 W, .int .i64 H, .slice a n c], .int .i64 x0, .int .i64 y0, .int .i64 x1, .int .i64 y1] w fun e w' => e = .returned (.tuple #[.int .i64 (boxN Wn zs x0 y0 x1 y1), .int .i64 0]) ∧ Below w.heap.size w w' := by
  obtain ⟨bb, off, rfl, hb1, hlen, hc⟩ := row_vals hI hR
  have hmn : n = Wn * Hn := by have := hI.2.1; rw [hWn, hHn, ← Int.natCast_mul] at this; omega
  have h := (callsIn_wide (n := 9)).1 (box_in 9 (by omega) W H x0 y0 x1 y1 bb off n c zs hI hlen hB.1 hB.2 w hb1 hc (ck_ok hI hn hR))
  have hx : x1 ≤ Wn := by have := hB.1.2.2; omega
  have hy : y1 ≤ Hn := by have := hB.2.2.2; omega
  have e : sumN (fun i => if inB W x0 y0 x1 y1 i then zs[i]?.getD 0 else 0) n = boxN Wn zs x0 y0 x1 y1 := by
    rw [← box_all Wn Hn zs x0 y0 x1 y1 hx hy, hmn]
    refine sumN_congr fun i _ => ?_
    have e1 : (i : Int) % (Wn : Int) = ((i % Wn : Nat) : Int) := rfl
    have e2 : (i : Int) / (Wn : Int) = ((i / Wn : Nat) : Int) := rfl
    unfold inB
    rw [hWn, e1, e2]
    by_cases k : (x0 ≤ i % Wn ∧ i % Wn < x1) ∧ y0 ≤ i / Wn ∧ i / Wn < y1
    · rw [if_pos k, if_pos (decide_eq_true (by omega))]
    · rw [if_neg k, if_neg (by rw [decide_eq_true_eq]; omega)]
  rwa [e] at h
set_option maxRecDepth 100000 in
set_option maxHeartbeats 1000000 in
theorem ibox_no (W H x0 y0 x1 y1 : Int) (a : Option Addr) (n c : Nat) (zs : List Int) (hI : ¬ okI W H zs) (hn : n ≤ maxLen) (w : World) (hR : Row w a n (iv zs)) :
    Calls Try.prog 48 #[.agg #[.int .i64 W, .int .i64 H, .slice a n c], .int .i64 x0, .int .i64 y0, .int .i64 x1, .int .i64 y1] w fun e w' => e = .returned (.tuple #[.int .i64 0, .int .i64 20]) ∧ Below w.heap.size w w' := by
  have HV : Hid (∀ w, Row w a n (iv zs) → Calls Try.prog 51 #[.agg #[.int .i64 W, .int .i64 H, .slice a n c]] w fun e w' => e = .returned (.int .i64 20) ∧ Below w.heap.size w w') := fun w h => by have := icheck_any W H a n c zs hn w h; rwa [ckI_no hI] at this
  have HR := Lib.hid hR
  clear hI hR
  go_enter Try.func48, Try.ntmps48
  go_wp2_with (go_at_call 51; (with_reducible refine (HV.out _ (HR.out.later (by (repeat' (first | (with_reducible exact Below.refl _ _) | (with_reducible assumption) | (with_reducible refine belowThru ?_ (by assumption)) | (with_reducible refine belowAlloc ?_) | (with_reducible refine Below.setCell ?_ (by first | omega | (simp; done) | (simp; omega)) _) | (with_reducible refine Below.drew ?_) | (with_reducible refine below_drewN ?_ _)))))).mono ?_); rintro e w1 ⟨rfl, hb⟩)
  go_ret2
  exact ⟨rfl, by (repeat' (first | (with_reducible exact Below.refl _ _) | (with_reducible assumption) | (with_reducible refine belowThru ?_ (by assumption)) | (with_reducible refine belowAlloc ?_) | (with_reducible refine Below.setCell ?_ (by first | omega | (simp; done) | (simp; omega)) _) | (with_reducible refine Below.drew ?_) | (with_reducible refine below_drewN ?_ _)))⟩
set_option maxRecDepth 100000 in
set_option maxHeartbeats 2000000 in
theorem ibox_arg (W H x0 y0 x1 y1 : Int) (a : Option Addr) (n c : Nat) (zs : List Int) (hI : okI W H zs) (hB : ¬ okB W H x0 y0 x1 y1) (hn : n ≤ maxLen) (w : World) (hR : Row w a n (iv zs)) :
    Calls Try.prog 48 #[.agg #[.int .i64 W, .int .i64 H, .slice a n c], .int .i64 x0, .int .i64 y0, .int .i64 x1, .int .i64 y1] w fun e w' => e = .returned (.tuple #[.int .i64 0, .int .i64 2]) ∧ Below w.heap.size w w' := by
  have HV : Hid (∀ w, Row w a n (iv zs) → Calls Try.prog 51 #[.agg #[.int .i64 W, .int .i64 H, .slice a n c]] w fun e w' => e = .returned (.int .i64 0) ∧ Below w.heap.size w w') := fun w h => by have := icheck_any W H a n c zs hn w h; rwa [ckI_ok hI] at this
  have HR := Lib.hid hR
  clear hI hR
  by_cases h1 : 0 ≤ x0 ∧ x0 ≤ x1 ∧ x1 ≤ W
  · have h2 : ¬ (0 ≤ y0 ∧ y0 ≤ y1 ∧ y1 ≤ H) := fun h => hB ⟨h1, h⟩
    have HO1 : Hid (∀ w, Calls Try.prog 93 #[.int .i64 0, .int .i64 x0, .int .i64 x1, .int .i64 W] w fun e w' => e = .returned (.bool true) ∧ w = w') := fun w => by have := ordered_any 0 x0 x1 W w; rwa [decide_eq_true h1] at this
    have HO2 : Hid (∀ w, Calls Try.prog 93 #[.int .i64 0, .int .i64 y0, .int .i64 y1, .int .i64 H] w fun e w' => e = .returned (.bool false) ∧ w = w') := fun w => by have := ordered_any 0 y0 y1 H w; rwa [decide_eq_false h2] at this
    clear h1 h2 hB
    go_enter Try.func48, Try.ntmps48
    go_wp2_with (first
      | (go_at_call 51; (with_reducible refine (HV.out _ (HR.out.later (by (repeat' (first | (with_reducible exact Below.refl _ _) | (with_reducible assumption) | (with_reducible refine belowThru ?_ (by assumption)) | (with_reducible refine belowAlloc ?_) | (with_reducible refine Below.setCell ?_ (by first | omega | (simp; done) | (simp; omega)) _) | (with_reducible refine Below.drew ?_) | (with_reducible refine below_drewN ?_ _)))))).mono ?_); rintro e w1 ⟨rfl, hb⟩; (first | ((with_reducible have k0 := Blk.later hb (Blk.alloc (Blk.alloc (Blk.alloc (Blk.alloc (Blk.new rfl)))))); (with_reducible have k1 := Blk.later hb (Blk.alloc (Blk.alloc (Blk.alloc (Blk.new rfl))))); (with_reducible have k2 := Blk.later hb (Blk.alloc (Blk.alloc (Blk.new rfl)))); (with_reducible have k3 := Blk.later hb (Blk.alloc (Blk.new rfl))); (with_reducible have k4 := Blk.later hb (Blk.new rfl)); simp only [World.size_alloc] at k1 k2 k3 k4; obtain ⟨a0, b0⟩ := k0.read; have zl := k0.lt; obtain ⟨a1, b1⟩ := k1.read; have zl := k1.lt; obtain ⟨a2, b2⟩ := k2.read; have zl := k2.lt; obtain ⟨a3, b3⟩ := k3.read; have zl := k3.lt; obtain ⟨a4, b4⟩ := k4.read; have zl := k4.lt) | ((try (have zk := k0.lt; (first | ((with_reducible refine Blk.keepG hb k0 (fun h => ?_) ?_); (focus ((repeat' (first | (with_reducible assumption) | ((with_reducible refine Blk.new ?_); first | rfl | (simp; done)) | (with_reducible refine Blk.later (by assumption) ?_) | (with_reducible refine Blk.alloc ?_) | (with_reducible refine Blk.drewN ?_) | (with_reducible refine Blk.drew ?_) | (with_reducible refine Blk.other ?_ (by first | omega | (simp; done) | (simp; omega))))); done)); clear k0; intro k0) | (with_reducible replace k0 := Blk.later hb (Blk.set (Blk.set k0))) | (with_reducible replace k0 := Blk.later hb (Blk.set k0))); clear a0 b0; obtain ⟨a0, b0⟩ := k0.read; have zl := k0.lt)); (try (have zk := k1.lt; (first | ((with_reducible refine Blk.keepG hb k1 (fun h => ?_) ?_); (focus ((repeat' (first | (with_reducible assumption) | ((with_reducible refine Blk.new ?_); first | rfl | (simp; done)) | (with_reducible refine Blk.later (by assumption) ?_) | (with_reducible refine Blk.alloc ?_) | (with_reducible refine Blk.drewN ?_) | (with_reducible refine Blk.drew ?_) | (with_reducible refine Blk.other ?_ (by first | omega | (simp; done) | (simp; omega))))); done)); clear k1; intro k1) | (with_reducible replace k1 := Blk.later hb (Blk.set (Blk.set k1))) | (with_reducible replace k1 := Blk.later hb (Blk.set k1))); clear a1 b1; obtain ⟨a1, b1⟩ := k1.read; have zl := k1.lt)); (try (have zk := k2.lt; (first | ((with_reducible refine Blk.keepG hb k2 (fun h => ?_) ?_); (focus ((repeat' (first | (with_reducible assumption) | ((with_reducible refine Blk.new ?_); first | rfl | (simp; done)) | (with_reducible refine Blk.later (by assumption) ?_) | (with_reducible refine Blk.alloc ?_) | (with_reducible refine Blk.drewN ?_) | (with_reducible refine Blk.drew ?_) | (with_reducible refine Blk.other ?_ (by first | omega | (simp; done) | (simp; omega))))); done)); clear k2; intro k2) | (with_reducible replace k2 := Blk.later hb (Blk.set (Blk.set k2))) | (with_reducible replace k2 := Blk.later hb (Blk.set k2))); clear a2 b2; obtain ⟨a2, b2⟩ := k2.read; have zl := k2.lt)); (try (have zk := k3.lt; (first | ((with_reducible refine Blk.keepG hb k3 (fun h => ?_) ?_); (focus ((repeat' (first | (with_reducible assumption) | ((with_reducible refine Blk.new ?_); first | rfl | (simp; done)) | (with_reducible refine Blk.later (by assumption) ?_) | (with_reducible refine Blk.alloc ?_) | (with_reducible refine Blk.drewN ?_) | (with_reducible refine Blk.drew ?_) | (with_reducible refine Blk.other ?_ (by first | omega | (simp; done) | (simp; omega))))); done)); clear k3; intro k3) | (with_reducible replace k3 := Blk.later hb (Blk.set (Blk.set k3))) | (with_reducible replace k3 := Blk.later hb (Blk.set k3))); clear a3 b3; obtain ⟨a3, b3⟩ := k3.read; have zl := k3.lt)); (try (have zk := k4.lt; (first | ((with_reducible refine Blk.keepG hb k4 (fun h => ?_) ?_); (focus ((repeat' (first | (with_reducible assumption) | ((with_reducible refine Blk.new ?_); first | rfl | (simp; done)) | (with_reducible refine Blk.later (by assumption) ?_) | (with_reducible refine Blk.alloc ?_) | (with_reducible refine Blk.drewN ?_) | (with_reducible refine Blk.drew ?_) | (with_reducible refine Blk.other ?_ (by first | omega | (simp; done) | (simp; omega))))); done)); clear k4; intro k4) | (with_reducible replace k4 := Blk.later hb (Blk.set (Blk.set k4))) | (with_reducible replace k4 := Blk.later hb (Blk.set k4))); clear a4 b4; obtain ⟨a4, b4⟩ := k4.read; have zl := k4.lt)))))
      | (go_at_call 93; (with_reducible refine (HO1.out _).mono ?_); rintro e w1 ⟨rfl, rfl⟩)
      | (go_at_call 93; (with_reducible refine (HO2.out _).mono ?_); rintro e w1 ⟨rfl, rfl⟩))
    go_ret2
    exact ⟨rfl, by (repeat' (first | (with_reducible exact Below.refl _ _) | (with_reducible assumption) | (with_reducible refine belowThru ?_ (by assumption)) | (with_reducible refine belowAlloc ?_) | (with_reducible refine Below.setCell ?_ (by first | omega | (simp; done) | (simp; omega)) _) | (with_reducible refine Below.drew ?_) | (with_reducible refine below_drewN ?_ _)))⟩
  · have HO1 : Hid (∀ w, Calls Try.prog 93 #[.int .i64 0, .int .i64 x0, .int .i64 x1, .int .i64 W] w fun e w' => e = .returned (.bool false) ∧ w = w') := fun w => by have := ordered_any 0 x0 x1 W w; rwa [decide_eq_false h1] at this
    clear h1 hB
    go_enter Try.func48, Try.ntmps48
    go_wp2_with (first
      | (go_at_call 51; (with_reducible refine (HV.out _ (HR.out.later (by (repeat' (first | (with_reducible exact Below.refl _ _) | (with_reducible assumption) | (with_reducible refine belowThru ?_ (by assumption)) | (with_reducible refine belowAlloc ?_) | (with_reducible refine Below.setCell ?_ (by first | omega | (simp; done) | (simp; omega)) _) | (with_reducible refine Below.drew ?_) | (with_reducible refine below_drewN ?_ _)))))).mono ?_); rintro e w1 ⟨rfl, hb⟩; (first | ((with_reducible have k0 := Blk.later hb (Blk.alloc (Blk.alloc (Blk.alloc (Blk.alloc (Blk.new rfl)))))); (with_reducible have k1 := Blk.later hb (Blk.alloc (Blk.alloc (Blk.alloc (Blk.new rfl))))); (with_reducible have k2 := Blk.later hb (Blk.alloc (Blk.alloc (Blk.new rfl)))); (with_reducible have k3 := Blk.later hb (Blk.alloc (Blk.new rfl))); (with_reducible have k4 := Blk.later hb (Blk.new rfl)); simp only [World.size_alloc] at k1 k2 k3 k4; obtain ⟨a0, b0⟩ := k0.read; have zl := k0.lt; obtain ⟨a1, b1⟩ := k1.read; have zl := k1.lt; obtain ⟨a2, b2⟩ := k2.read; have zl := k2.lt; obtain ⟨a3, b3⟩ := k3.read; have zl := k3.lt; obtain ⟨a4, b4⟩ := k4.read; have zl := k4.lt) | ((try (have zk := k0.lt; (first | ((with_reducible refine Blk.keepG hb k0 (fun h => ?_) ?_); (focus ((repeat' (first | (with_reducible assumption) | ((with_reducible refine Blk.new ?_); first | rfl | (simp; done)) | (with_reducible refine Blk.later (by assumption) ?_) | (with_reducible refine Blk.alloc ?_) | (with_reducible refine Blk.drewN ?_) | (with_reducible refine Blk.drew ?_) | (with_reducible refine Blk.other ?_ (by first | omega | (simp; done) | (simp; omega))))); done)); clear k0; intro k0) | (with_reducible replace k0 := Blk.later hb (Blk.set (Blk.set k0))) | (with_reducible replace k0 := Blk.later hb (Blk.set k0))); clear a0 b0; obtain ⟨a0, b0⟩ := k0.read; have zl := k0.lt)); (try (have zk := k1.lt; (first | ((with_reducible refine Blk.keepG hb k1 (fun h => ?_) ?_); (focus ((repeat' (first | (with_reducible assumption) | ((with_reducible refine Blk.new ?_); first | rfl | (simp; done)) | (with_reducible refine Blk.later (by assumption) ?_) | (with_reducible refine Blk.alloc ?_) | (with_reducible refine Blk.drewN ?_) | (with_reducible refine Blk.drew ?_) | (with_reducible refine Blk.other ?_ (by first | omega | (simp; done) | (simp; omega))))); done)); clear k1; intro k1) | (with_reducible replace k1 := Blk.later hb (Blk.set (Blk.set k1))) | (with_reducible replace k1 := Blk.later hb (Blk.set k1))); clear a1 b1; obtain ⟨a1, b1⟩ := k1.read; have zl := k1.lt)); (try (have zk := k2.lt; (first | ((with_reducible refine Blk.keepG hb k2 (fun h => ?_) ?_); (focus ((repeat' (first | (with_reducible assumption) | ((with_reducible refine Blk.new ?_); first | rfl | (simp; done)) | (with_reducible refine Blk.later (by assumption) ?_) | (with_reducible refine Blk.alloc ?_) | (with_reducible refine Blk.drewN ?_) | (with_reducible refine Blk.drew ?_) | (with_reducible refine Blk.other ?_ (by first | omega | (simp; done) | (simp; omega))))); done)); clear k2; intro k2) | (with_reducible replace k2 := Blk.later hb (Blk.set (Blk.set k2))) | (with_reducible replace k2 := Blk.later hb (Blk.set k2))); clear a2 b2; obtain ⟨a2, b2⟩ := k2.read; have zl := k2.lt)); (try (have zk := k3.lt; (first | ((with_reducible refine Blk.keepG hb k3 (fun h => ?_) ?_); (focus ((repeat' (first | (with_reducible assumption) | ((with_reducible refine Blk.new ?_); first | rfl | (simp; done)) | (with_reducible refine Blk.later (by assumption) ?_) | (with_reducible refine Blk.alloc ?_) | (with_reducible refine Blk.drewN ?_) | (with_reducible refine Blk.drew ?_) | (with_reducible refine Blk.other ?_ (by first | omega | (simp; done) | (simp; omega))))); done)); clear k3; intro k3) | (with_reducible replace k3 := Blk.later hb (Blk.set (Blk.set k3))) | (with_reducible replace k3 := Blk.later hb (Blk.set k3))); clear a3 b3; obtain ⟨a3, b3⟩ := k3.read; have zl := k3.lt)); (try (have zk := k4.lt; (first | ((with_reducible refine Blk.keepG hb k4 (fun h => ?_) ?_); (focus ((repeat' (first | (with_reducible assumption) | ((with_reducible refine Blk.new ?_); first | rfl | (simp; done)) | (with_reducible refine Blk.later (by assumption) ?_) | (with_reducible refine Blk.alloc ?_) | (with_reducible refine Blk.drewN ?_) | (with_reducible refine Blk.drew ?_) | (with_reducible refine Blk.other ?_ (by first | omega | (simp; done) | (simp; omega))))); done)); clear k4; intro k4) | (with_reducible replace k4 := Blk.later hb (Blk.set (Blk.set k4))) | (with_reducible replace k4 := Blk.later hb (Blk.set k4))); clear a4 b4; obtain ⟨a4, b4⟩ := k4.read; have zl := k4.lt)))))
      | (go_at_call 93; (with_reducible refine (HO1.out _).mono ?_); rintro e w1 ⟨rfl, rfl⟩))
    go_ret2
    exact ⟨rfl, by (repeat' (first | (with_reducible exact Below.refl _ _) | (with_reducible assumption) | (with_reducible refine belowThru ?_ (by assumption)) | (with_reducible refine belowAlloc ?_) | (with_reducible refine Below.setCell ?_ (by first | omega | (simp; done) | (simp; omega)) _) | (with_reducible refine Below.drew ?_) | (with_reducible refine below_drewN ?_ _)))⟩

end Go.Proofs.Ytghmjdmiaajbnaa
/-
  Layer 2: the statements' own images of rows.
-/
namespace Go.Proofs.Ytghmjdmiaajbnaa
open Go.RowKit
set_option linter.unusedVariables false
set_option linter.unusedSimpArgs false

/-- Lists in blocks, and a block of them. -/
def rws (rs : List (Nat × List Int)) : Array Value := (rs.map fun r => Value.slice (some ⟨r.1, 0, none⟩) r.2.length r.2.length).toArray
def Rws (w : World) (B : Nat) (rs : List (Nat × List Int)) : Prop := Blk w B (rws rs) 22 ∧ ∀ r ∈ rs, Blk w r.1 (ints r.2) 3
def flat (rs : List (Nat × List Int)) : List Int := (rs.map (·.2)).flatten
theorem Rws.later {w w' : World} (hb : Below w.heap.size w w') {B : Nat} {rs : List (Nat × List Int)} (h : Rws w B rs) : Rws w' B rs := ⟨Blk.later hb h.1, fun r hr => Blk.later hb (h.2 r hr)⟩
theorem rws_get (rs : List (Nat × List Int)) {i : Nat} {r : Nat × List Int} (h : rs[i]? = some r) : (rws rs)[i]? = some (.slice (some ⟨r.1, 0, none⟩) r.2.length r.2.length) := by unfold rws; simp [h]
theorem flat_succ (rs : List (Nat × List Int)) {i : Nat} {r : Nat × List Int} (h : rs[i]? = some r) : flat (rs.take (i + 1)) = flat (rs.take i) ++ r.2 := by
  unfold flat
  rw [List.take_add_one, h]; simp
theorem flat_len (rs : List (Nat × List Int)) (hl : ∀ r ∈ rs, r.2.length ≤ 16) : (flat rs).length ≤ rs.length * 16 := by
  unfold flat
  induction rs with
  | nil => simp
  | cons r rs ih =>
    have h1 := hl r (by simp)
    have h2 := ih (fun r hr => hl r (by simp [hr]))
    simp only [List.map_cons, List.flatten_cons, List.length_append, List.length_cons, Nat.add_one_mul] at *
    omega
theorem ints_cells {w : World} {g : Nat} {zs : List Int} (h : Blk w g (ints zs) 3) : ∀ j u, (iv zs)[j]? = some u → w.cell? ((⟨g, 0, none⟩ : Addr).add j) = some u := by
  intro j u hj
  rw [add_pl, h.cells, Nat.zero_add, ints_get]
  rw [iv] at hj
  simpa using hj

theorem ownsRow_form {w : World} {base e size : Nat} {v : Value} {n : Nat} {xs : List Value} (h : w.ownsRow base e size v n xs) : ∃ a c, v = .slice a n c := by
  rcases h.2 with ⟨rfl, h0⟩ | ⟨g, cap, cur, rfl, -⟩
  · exact ⟨none, 0, by rw [h0]⟩
  · exact ⟨_, _, rfl⟩
set_option maxRecDepth 100000 in
set_option maxHeartbeats 4000000 in
theorem rows_any (B k : Nat) (rs : List (Nat × List Int)) (r0 : Nat × List Int) (h0 : rs[0]? = some r0) (hk : rs.length = k) (hk16 : k ≤ 16) (hl : ∀ r ∈ rs, r.2.length ≤ 16) (w : World) (hR : Rws w B rs) :
    Calls Try.prog 16 #[.slice (some ⟨B, 0, none⟩) k k] w fun e w' => ∃ (a : Option Addr) (c : Nat), e = .returned (.agg #[.int .i64 (r0.2.length : Nat), .int .i64 (k : Nat), .slice a (flat rs).length c]) ∧ Row w' a (flat rs).length (iv (flat rs)) ∧ Below w.heap.size w w' := by
  have hk0 : 0 < k := by
    rcases Nat.eq_zero_or_pos k with e | e
    · rw [← hk] at e; rw [List.eq_nil_of_length_eq_zero e] at h0; cases h0
    · exact e
  have kc : (0 : Int) < (k : Int) := by omega
  have hg0 := rws_get rs h0
  have hB := hR.1
  have hBl := hB.lt
  obtain ⟨aB, bB⟩ := hB.read
  have HR := Lib.hid hR
  have HG : Hid (∀ i, i < k → ∃ r, rs[i]? = some r ∧ r ∈ rs) := fun i hi => ⟨rs[i]'(by omega), List.getElem?_eq_getElem (by omega), List.getElem_mem _⟩
  have HL := Lib.hid hl
  have HFL : Hid (∀ i, (flat (rs.take i)).length ≤ 256) := fun i => by
    have h1 := flat_len (rs.take i) (fun r hr => hl r (List.mem_of_mem_take hr))
    rw [List.length_take] at h1
    omega
  have HK := Lib.hid hk
  obtain ⟨l0, hl0⟩ : ∃ l0, r0.2.length = l0 := ⟨_, rfl⟩
  rw [hl0] at hg0 ⊢
  clear hl hk h0 hl0 hR
  go_enter Try.func16, Try.ntmps16
  go_wp2
  go_loopw [4] (fun s4 wr => ∃ i : Nat, i ≤ k ∧ s4 = .int .i64 i ∧ Blk wr w.heap.size #[.int .i64 0, .int .i64 0, .slice none 0 0] 24 ∧ (∃ v, Blk wr (w.heap.size + 1) #[.int .i64 l0, .int .i64 k, v] 24 ∧ wr.ownsRow (w.heap.size + 1 + 1) 3 1 v (flat (rs.take i)).length (iv (flat (rs.take i)))) ∧ Below w.heap.size w wr) (fun s4 _ => k - (intOf s4).toNat)
  case atStart => exact ⟨0, Nat.zero_le _, rfl, by (repeat' (first | (with_reducible assumption) | ((with_reducible refine Blk.new ?_); first | rfl | (simp; done)) | (with_reducible refine Blk.later (by assumption) ?_) | (with_reducible refine Blk.alloc ?_) | (with_reducible refine Blk.drewN ?_) | (with_reducible refine Blk.drew ?_) | (with_reducible refine Blk.other ?_ (by first | omega | (simp; done) | (simp; omega))))), ⟨.slice none 0 0, by first | exact Blk.set (Blk.set (Blk.set (Blk.new (by simp)))) | ((repeat' (first | (with_reducible assumption) | ((with_reducible refine Blk.new ?_); first | rfl | (simp; done)) | (with_reducible refine Blk.later (by assumption) ?_) | (with_reducible refine Blk.alloc ?_) | (with_reducible refine Blk.drewN ?_) | (with_reducible refine Blk.drew ?_) | (with_reducible refine Blk.other ?_ (by first | omega | (simp; done) | (simp; omega)))))), World.ownsRow_nil _ _ _ _⟩, by (repeat' (first | (with_reducible exact Below.refl _ _) | (with_reducible assumption) | (with_reducible refine belowThru ?_ (by assumption)) | (with_reducible refine belowAlloc ?_) | (with_reducible refine Below.setCell ?_ (by first | omega | (simp; done) | (simp; omega)) _) | (with_reducible refine Below.drew ?_) | (with_reducible refine below_drewN ?_ _)))⟩
  case round =>
    clear aB bB
    obtain ⟨i, hi, rfl, k0, ⟨v, k1, hO⟩, hBw⟩ := hrel
    obtain ⟨a0, b0⟩ := k0.read; obtain ⟨a1, b1⟩ := k1.read
    have y0 := k0.lt; have y1 := k1.lt
    have HO := Lib.hid hO
    clear hO
    by_cases hlt : i < k
    · have i9 : (i : Int) < (k : Int) := by omega
      have i0 : (0 : Int) ≤ (i : Int) := by omega
      obtain ⟨r, hr, hrm⟩ := HG.out i hlt
      have hgi := rws_get rs hr
      have HRM := Lib.hid hrm
      have HRI := Lib.hid hr
      clear hr hrm
      have hBr := Blk.later hBw (HR.out.1)
      go_wp2_with fail
      refine wp_region_held_drew (S := fun w' => (Blk w' B (rws rs) 22 ∧ (∀ i : Nat, w'.cell? ⟨B, i, none⟩ = (rws rs)[i]?)) ∧ Below w.heap.size w w') (by kernel_rfl) ⟨hBr.drew.full, hBw.drew⟩ (fun hHeld => ?_)
      refine wpAnyH_take (i := 0) (v := ?_) rfl (by kernel_rfl) (by kernel_rfl) (by kernel_rfl) (fun _ _ _ h => h) (Or.inl ⟨by rfl, ?hT0⟩) (by assumption) ?_
      case hT0 => ((intro w hSw; (try dsimp only at hSw); go_simp); try (with_reducible rfl))
      try simp only [Act.put, List.setIfInBounds_toArray, List.set_cons_zero, List.set_cons_succ]
      refine wpAnyH_take (i := 2) (v := ?_) rfl (by kernel_rfl) (by kernel_rfl) (by kernel_rfl) (fun _ _ _ h => h) (Or.inl ⟨by rfl, ?hT1⟩) (by assumption) ?_
      case hT1 => ((intro w hSw; (try dsimp only at hSw); go_simp); try (with_reducible rfl))
      try simp only [Act.put, List.setIfInBounds_toArray, List.set_cons_zero, List.set_cons_succ]
      refine wpAnyH_take (i := 3) (v := ?_) rfl (by kernel_rfl) (by kernel_rfl) (by kernel_rfl) (fun _ _ _ h => h) (Or.inl ⟨by rfl, ?hT2⟩) (by assumption) ?_
      case hT2 => ((intro w hSw; (try dsimp only at hSw); go_simp); try (with_reducible rfl))
      try simp only [Act.put, List.setIfInBounds_toArray, List.set_cons_zero, List.set_cons_succ]
      refine wpAnyH_take (i := 4) (v := ?_) rfl (by kernel_rfl) (by kernel_rfl) (by kernel_rfl) (fun _ _ _ h => h) (Or.inl ⟨by rfl, ?hT3⟩) (by assumption) ?_
      case hT3 => ((intro w hSw; (try dsimp only at hSw); go_simp); try (with_reducible rfl))
      try simp only [Act.put, List.setIfInBounds_toArray, List.set_cons_zero, List.set_cons_succ]
      refine wpAnyH_take (i := 5) (v := ?_) rfl (by kernel_rfl) (by kernel_rfl) (by kernel_rfl) (fun _ _ _ h => h) (Or.inl ⟨by rfl, ?hT4⟩) (by assumption) ?_
      case hT4 => ((intro w hSw; (try dsimp only at hSw); go_simp); try (with_reducible rfl))
      try simp only [Act.put, List.setIfInBounds_toArray, List.set_cons_zero, List.set_cons_succ]
      refine wpAnyH_ready (rs := [1]) (by kernel_rfl) (by simp) ?_
      refine AllReadyH.cons rfl (fun K hK => ?_) AllReadyH.nil
      go_simp
      refine hK.out _ _ ?_ (fun hHeldN => ?_)
      · (try dsimp only); (((first | (apply hold1; (focus assumption); intro p0 pB) | skip); refine ⟨Blk.full ?_, ?_⟩; all_goals (first | ((repeat' (first | (with_reducible assumption) | ((with_reducible refine Blk.new ?_); first | rfl | (simp; done)) | (with_reducible refine Blk.later (by assumption) ?_) | (with_reducible refine Blk.alloc ?_) | (with_reducible refine Blk.drewN ?_) | (with_reducible refine Blk.drew ?_) | (with_reducible refine Blk.other ?_ (by first | omega | (simp; done) | (simp; omega))))); done) | ((repeat' (first | (with_reducible exact Below.refl _ _) | (with_reducible assumption) | (with_reducible refine belowThru ?_ (by assumption)) | (with_reducible refine belowAlloc ?_) | (with_reducible refine Below.setCell ?_ (by first | omega | (simp; done) | (simp; omega)) _) | (with_reducible refine Below.drew ?_) | (with_reducible refine below_drewN ?_ _))); done))))
      clear hK K hHeld
      have hHeld := hHeldN
      clear hHeldN
      try simp only [Act.put, List.setIfInBounds_toArray, List.set_cons_zero, List.set_cons_succ]
      refine wpAnyH_ready (rs := [6]) (by kernel_rfl) (by simp) ?_
      refine AllReadyH.cons rfl (fun K hK => ?_) AllReadyH.nil
      obtain ⟨inf, hf0, hf1, hf2, hf3⟩ := info_parts info_tin
      refine wp_append_own _ (.tmp 19) (.tmp 23) 22 rfl (w.heap.size + 1 + 1) 3 inf (.int .i64 0) 1 8 Try.underlying22 hf0 hf1 hf2 hf3 rfl (by omega) v _ _ rfl HO.out ⟨r.1, 0, none⟩ r.2.length r.2.length (iv r.2) rfl (by rw [iv_length]; omega) (ints_cells (Blk.later hBw.drew (HR.out.2 r HRM.out))) (oneCell_iv _) ?h63 ?hby ?hbs ?hrest
      case hbs => simp only [World.size_drew]; omega
      case h63 => have h1 := HFL.out i; have h2 := HL.out r HRM.out; unfold maxLen; omega
      case hby => have h1 := HFL.out i; have h2 := HL.out r HRM.out; omega
      case hrest =>
        intro v2 w2 hO2 hg hnil
        obtain ⟨av, cv, rfl⟩ := ownsRow_form hO2
        have hlv : ∀ g, v.ownBlock = some g → w.heap.size + 1 + 1 ≤ g := fun g e => (HO.out.lt g e).1
        have hB2 : Below w.heap.size w w2 := hBw.drew.grown hg hBw.size (fun g e => by have := hlv g e; omega)
        have k0' := Blk.but hg (fun g e => by have := hlv g e; omega) k0.drew
        have k1' := Blk.but hg (fun g e => by have := hlv g e; omega) k1.drew
        obtain ⟨a1', b1'⟩ := k1'.read
        refine hK.out _ _ ⟨(Blk.later hB2 HR.out.1).full, hB2⟩ (fun hHeldN => ?_)
        clear hK K hHeld
        have hHeld := hHeldN
        clear hHeldN
        try simp only [Act.put, List.setIfInBounds_toArray, List.set_cons_zero, List.set_cons_succ]
        refine wpAnyH_take (i := 7) (v := ?_) rfl (by kernel_rfl) (by kernel_rfl) (by kernel_rfl) (fun _ _ _ h => h) (Or.inl ⟨by rfl, ?hT5⟩) (by assumption) ?_
        case hT5 => ((intro w hSw; (try dsimp only at hSw); go_simp); try (with_reducible rfl))
        try simp only [Act.put, List.setIfInBounds_toArray, List.set_cons_zero, List.set_cons_succ]
        refine wpAnyH_ready (rs := [8]) (by kernel_rfl) (by simp) ?_
        refine AllReadyH.cons rfl (fun K hK => ?_) AllReadyH.nil
        go_simp
        refine hK.out _ _ ?_ (fun hHeldN => ?_)
        · (try dsimp only); (((first | (apply hold1; (focus assumption); intro p0 pB) | skip); refine ⟨Blk.full ?_, ?_⟩; all_goals (first | ((repeat' (first | (with_reducible assumption) | ((with_reducible refine Blk.new ?_); first | rfl | (simp; done)) | (with_reducible refine Blk.later (by assumption) ?_) | (with_reducible refine Blk.alloc ?_) | (with_reducible refine Blk.drewN ?_) | (with_reducible refine Blk.drew ?_) | (with_reducible refine Blk.other ?_ (by first | omega | (simp; done) | (simp; omega))))); done) | ((repeat' (first | (with_reducible exact Below.refl _ _) | (with_reducible assumption) | (with_reducible refine belowThru ?_ (by assumption)) | (with_reducible refine belowAlloc ?_) | (with_reducible refine Below.setCell ?_ (by first | omega | (simp; done) | (simp; omega)) _) | (with_reducible refine Below.drew ?_) | (with_reducible refine below_drewN ?_ _))); done))))
        clear hK K hHeld
        have hHeld := hHeldN
        clear hHeldN
        try simp only [Act.put, List.setIfInBounds_toArray, List.set_cons_zero, List.set_cons_succ]
        refine wpAnyH_done (by kernel_rfl) ?_ _
        obtain ⟨-, pB⟩ := hHeld
        have hO3 : (w2.setCell ⟨w.heap.size + 1, 2, none⟩ (.slice av ((flat (rs.take i)).length + r.2.length) cv)).ownsRow (w.heap.size + 1 + 1) 3 1 (.slice av ((flat (rs.take i)).length + r.2.length) cv) (flat (rs.take (i + 1))).length (iv (flat (rs.take (i + 1)))) := by
          rw [flat_succ rs HRI.out, List.length_append, show iv (flat (rs.take i) ++ r.2) = iv (flat (rs.take i)) ++ iv r.2 by simp [iv]]
          exact hO2.kept (grownBy_set ⟨rfl, rfl, rfl, Nat.le_refl _, fun _ _ _ => rfl⟩ _ _) (.inr (fun e => by have := (hO2.lt _ e).1; omega))
        go_wp2
        go_roundw
        case rel => exact ⟨i + 1, hlt, by go_num, Blk.other k0' (by simp), ⟨_, Blk.set k1', hO3⟩, pB⟩
        case measure => simp [intOf]; omega
    · have hie : i = k := by omega
      subst hie
      rw [List.take_of_length_le (Nat.le_of_eq HK.out)] at HO
      obtain ⟨a, c, rfl, hrow⟩ := ownsRow_row HO.out
      have hp : ∀ ad : Addr, a = some ad → w.heap.size ≠ ad.block := by
        rintro ad rfl
        have := (HO.out.lt ad.block rfl).1
        omega
      have HRow := Lib.hid hrow
      have HP := Lib.hid hp
      clear hrow hp
      go_wp2
      exact bodyPost_ret (v := .agg #[.int .i64 l0, .int .i64 i, .slice a (flat rs).length c]) (by simp only [results, Try.results16]; go_simp) rfl ⟨a, c, rfl, ((HRow.out.set HP.out).set HP.out).set HP.out, by (repeat' (first | (with_reducible exact Below.refl _ _) | (with_reducible assumption) | (with_reducible refine belowThru ?_ (by assumption)) | (with_reducible refine belowAlloc ?_) | (with_reducible refine Below.setCell ?_ (by first | omega | (simp; done) | (simp; omega)) _) | (with_reducible refine Below.drew ?_) | (with_reducible refine below_drewN ?_ _)))⟩
end Go.Proofs.Ytghmjdmiaajbnaa
/-
  Layer 2: the statements' own comparison of an image with rows.
-/
namespace Go.Proofs.Ytghmjdmiaajbnaa
open Go.RowKit
set_option linter.unusedVariables false
set_option linter.unusedSimpArgs false

set_option maxRecDepth 100000 in
set_option maxHeartbeats 4000000 in
theorem is_true (W H : Int) (a : Option Addr) (n c : Nat) (zs : List Int) (B k : Nat) (rs : List (Nat × List Int)) (r0 : Nat × List Int) (h0 : rs[0]? = some r0) (hk : rs.length = k) (hk16 : k ≤ 16) (hl : ∀ r ∈ rs, r.2.length ≤ 16) (hW : (r0.2.length : Int) = W) (hH : (k : Int) = H) (hz : flat rs = zs) (hn : n ≤ maxLen) (w : World) (hR : Row w a n (iv zs)) (hRw : Rws w B rs) :
    Calls Try.prog 19 #[.agg #[.int .i64 W, .int .i64 H, .slice a n c], .int .i64 0, .slice (some ⟨B, 0, none⟩) k k] w fun e w' => e = .returned (.bool true) ∧ Below w.heap.size w w' := by
  have HROWS : Hid (∀ w, Rws w B rs → Calls Try.prog 16 #[.slice (some ⟨B, 0, none⟩) k k] w fun e w' => ∃ (b : Option Addr) (d : Nat), e = .returned (.agg #[.int .i64 W, .int .i64 H, .slice b (flat rs).length d]) ∧ Row w' b (flat rs).length (iv zs) ∧ Below w.heap.size w w') := fun w h => by
    have := rows_any B k rs r0 h0 hk hk16 hl w h
    rw [hW, hH, show iv (flat rs) = iv zs by rw [hz]] at this
    exact this
  have HSAME : Hid (∀ (b : Option Addr) (m d : Nat) w, Row w a n (iv zs) → Row w b m (iv zs) → Calls Try.prog 35 #[.agg #[.int .i64 W, .int .i64 H, .slice a n c], .agg #[.int .i64 W, .int .i64 H, .slice b m d]] w fun e w' => e = .returned (.bool true) ∧ Below w.heap.size w w') := fun b m d w h1 h2 => same_yes W H a b n m c d zs hn w h1 h2
  have HR := Lib.hid hR
  have HW := Lib.hid hRw
  obtain ⟨N, hN⟩ : ∃ N, (flat rs).length = N := ⟨_, rfl⟩
  rw [hN] at HROWS
  have hmx : Try.prog.follows .mixedOrders = true := by kernel_rfl
  clear h0 hk hk16 hl hW hH hz hn hR hRw hN
  go_enter Try.func19, Try.ntmps19
  go_upto_region 1 with fail
  refine wp_region_held_drew (S := fun w' => (Blk w' w.heap.size #[.int .i64 W, .int .i64 H, .slice a n c] 24 ∧ (∀ i : Nat, w'.cell? ⟨w.heap.size, i, none⟩ = (#[.int .i64 W, .int .i64 H, .slice a n c] : Array Value)[i]?)) ∧ Below w.heap.size w w') hmx ⟨Blk.full (by (repeat' (first | (with_reducible assumption) | ((with_reducible refine Blk.new ?_); first | rfl | (simp; done)) | (with_reducible refine Blk.later (by assumption) ?_) | (with_reducible refine Blk.alloc ?_) | (with_reducible refine Blk.drewN ?_) | (with_reducible refine Blk.drew ?_) | (with_reducible refine Blk.other ?_ (by first | omega | (simp; done) | (simp; omega)))))), by (repeat' (first | (with_reducible exact Below.refl _ _) | (with_reducible assumption) | (with_reducible refine belowThru ?_ (by assumption)) | (with_reducible refine belowAlloc ?_) | (with_reducible refine Below.setCell ?_ (by first | omega | (simp; done) | (simp; omega)) _) | (with_reducible refine Below.drew ?_) | (with_reducible refine below_drewN ?_ _)))⟩ (fun hHeld => ?_)
  refine wpAnyH_take (i := 0) (v := ?_) rfl (by kernel_rfl) (by kernel_rfl) (by kernel_rfl) (fun _ _ _ h => h) (Or.inl ⟨by rfl, ?hT0⟩) (by assumption) ?_
  case hT0 => ((intro w hSw; (try dsimp only at hSw); go_simp); try (with_reducible rfl))
  try simp only [Act.put, List.setIfInBounds_toArray, List.set_cons_zero, List.set_cons_succ]
  refine wpAnyH_take (i := 1) (v := ?_) rfl (by kernel_rfl) (by kernel_rfl) (by kernel_rfl) (fun _ _ _ h => h) (Or.inl ⟨by rfl, ?hT1⟩) (by assumption) ?_
  case hT1 => ((intro w hSw; (try dsimp only at hSw); go_simp); try (with_reducible rfl))
  try simp only [Act.put, List.setIfInBounds_toArray, List.set_cons_zero, List.set_cons_succ]
  refine wpAnyH_take (i := 2) (v := ?_) rfl (by kernel_rfl) (by kernel_rfl) (by kernel_rfl) (fun _ _ _ h => h) (Or.inl ⟨by rfl, ?hT2⟩) (by assumption) ?_
  case hT2 => ((intro w hSw; (try dsimp only at hSw); go_simp); try (with_reducible rfl))
  try simp only [Act.put, List.setIfInBounds_toArray, List.set_cons_zero, List.set_cons_succ]
  refine wpAnyH_take (i := 3) (v := ?_) rfl (by kernel_rfl) (by kernel_rfl) (by kernel_rfl) (fun _ _ _ h => h) (Or.inl ⟨by rfl, ?hT3⟩) (by assumption) ?_
  case hT3 => ((intro w hSw; (try dsimp only at hSw); go_simp); try (with_reducible rfl))
  try simp only [Act.put, List.setIfInBounds_toArray, List.set_cons_zero, List.set_cons_succ]
  refine wpAnyH_take (i := 4) (v := ?_) rfl (by kernel_rfl) (by kernel_rfl) (by kernel_rfl) (fun _ _ _ h => h) (Or.inl ⟨by rfl, ?hT4⟩) (by assumption) ?_
  case hT4 => ((intro w hSw; (try dsimp only at hSw); go_simp); try (with_reducible rfl))
  try simp only [Act.put, List.setIfInBounds_toArray, List.set_cons_zero, List.set_cons_succ]
  refine wpAnyH_ready (rs := [5]) (by kernel_rfl) (by simp) ?_
  refine AllReadyH.cons rfl (fun K hK => ?_) AllReadyH.nil
  go_simp
  (go_at_call 16; (with_reducible refine (HROWS.out _ (HW.out.later (by (repeat' (first | (with_reducible exact Below.refl _ _) | (with_reducible assumption) | (with_reducible refine belowThru ?_ (by assumption)) | (with_reducible refine belowAlloc ?_) | (with_reducible refine Below.setCell ?_ (by first | omega | (simp; done) | (simp; omega)) _) | (with_reducible refine Below.drew ?_) | (with_reducible refine below_drewN ?_ _)))))).mono ?_); rintro e wA ⟨b, d, rfl, hb2, hb⟩)
  refine hK.out _ _ ?_ (fun hHeldN => ?_)
  · (try dsimp only); (((first | (apply hold1; (focus assumption); intro p0 pB) | skip); refine ⟨Blk.full ?_, ?_⟩; all_goals (first | ((repeat' (first | (with_reducible assumption) | ((with_reducible refine Blk.new ?_); first | rfl | (simp; done)) | (with_reducible refine Blk.later (by assumption) ?_) | (with_reducible refine Blk.alloc ?_) | (with_reducible refine Blk.drewN ?_) | (with_reducible refine Blk.drew ?_) | (with_reducible refine Blk.other ?_ (by first | omega | (simp; done) | (simp; omega))))); done) | ((repeat' (first | (with_reducible exact Below.refl _ _) | (with_reducible assumption) | (with_reducible refine belowThru ?_ (by assumption)) | (with_reducible refine belowAlloc ?_) | (with_reducible refine Below.setCell ?_ (by first | omega | (simp; done) | (simp; omega)) _) | (with_reducible refine Below.drew ?_) | (with_reducible refine below_drewN ?_ _))); done))))
  clear hK K hHeld
  have hHeld := hHeldN
  clear hHeldN
  try simp only [Act.put, List.setIfInBounds_toArray, List.set_cons_zero, List.set_cons_succ]
  have hBA : Below w.heap.size w wA := by (repeat' (first | (with_reducible exact Below.refl _ _) | (with_reducible assumption) | (with_reducible refine belowThru ?_ (by assumption)) | (with_reducible refine belowAlloc ?_) | (with_reducible refine Below.setCell ?_ (by first | omega | (simp; done) | (simp; omega)) _) | (with_reducible refine Below.drew ?_) | (with_reducible refine below_drewN ?_ _)))
  have HB := Lib.hid hb2
  clear hb hb2
  refine wpAnyH_ready (rs := [6]) (by kernel_rfl) (by simp) ?_
  refine AllReadyH.cons rfl (fun K hK => ?_) AllReadyH.nil
  go_simp
  (go_at_call 35; (with_reducible refine (HSAME.out _ _ _ _ (HR.out.later hBA) HB.out).mono ?_); rintro e wB ⟨rfl, hb⟩)
  refine hK.out _ _ ?_ (fun hHeldN => ?_)
  · (try dsimp only); (((first | (apply hold1; (focus assumption); intro p0 pB) | skip); refine ⟨Blk.full ?_, ?_⟩; all_goals (first | ((repeat' (first | (with_reducible assumption) | ((with_reducible refine Blk.new ?_); first | rfl | (simp; done)) | (with_reducible refine Blk.later (by assumption) ?_) | (with_reducible refine Blk.alloc ?_) | (with_reducible refine Blk.drewN ?_) | (with_reducible refine Blk.drew ?_) | (with_reducible refine Blk.other ?_ (by first | omega | (simp; done) | (simp; omega))))); done) | ((repeat' (first | (with_reducible exact Below.refl _ _) | (with_reducible assumption) | (with_reducible refine belowThru ?_ (by assumption)) | (with_reducible refine belowAlloc ?_) | (with_reducible refine Below.setCell ?_ (by first | omega | (simp; done) | (simp; omega)) _) | (with_reducible refine Below.drew ?_) | (with_reducible refine below_drewN ?_ _))); done))))
  clear hK K hHeld
  have hHeld := hHeldN
  clear hHeldN
  try simp only [Act.put, List.setIfInBounds_toArray, List.set_cons_zero, List.set_cons_succ]
  clear hb
  refine wpAnyH_ready (rs := [7]) (by kernel_rfl) (by simp) ?_
  refine AllReadyH.cons rfl (fun K hK => ?_) AllReadyH.nil
  go_simp
  refine hK.out _ _ ?_ (fun hHeldN => ?_)
  · (try dsimp only); (((first | (apply hold1; (focus assumption); intro p0 pB) | skip); refine ⟨Blk.full ?_, ?_⟩; all_goals (first | ((repeat' (first | (with_reducible assumption) | ((with_reducible refine Blk.new ?_); first | rfl | (simp; done)) | (with_reducible refine Blk.later (by assumption) ?_) | (with_reducible refine Blk.alloc ?_) | (with_reducible refine Blk.drewN ?_) | (with_reducible refine Blk.drew ?_) | (with_reducible refine Blk.other ?_ (by first | omega | (simp; done) | (simp; omega))))); done) | ((repeat' (first | (with_reducible exact Below.refl _ _) | (with_reducible assumption) | (with_reducible refine belowThru ?_ (by assumption)) | (with_reducible refine belowAlloc ?_) | (with_reducible refine Below.setCell ?_ (by first | omega | (simp; done) | (simp; omega)) _) | (with_reducible refine Below.drew ?_) | (with_reducible refine below_drewN ?_ _))); done))))
  clear hK K hHeld
  have hHeld := hHeldN
  clear hHeldN
  try simp only [Act.put, List.setIfInBounds_toArray, List.set_cons_zero, List.set_cons_succ]
  refine wpAnyH_ready (rs := [8]) (by kernel_rfl) (by simp) ?_
  refine AllReadyH.cons rfl (fun K hK => ?_) AllReadyH.nil
  go_simp
  refine hK.out _ _ ?_ (fun hHeldN => ?_)
  · (try dsimp only); (((first | (apply hold1; (focus assumption); intro p0 pB) | skip); refine ⟨Blk.full ?_, ?_⟩; all_goals (first | ((repeat' (first | (with_reducible assumption) | ((with_reducible refine Blk.new ?_); first | rfl | (simp; done)) | (with_reducible refine Blk.later (by assumption) ?_) | (with_reducible refine Blk.alloc ?_) | (with_reducible refine Blk.drewN ?_) | (with_reducible refine Blk.drew ?_) | (with_reducible refine Blk.other ?_ (by first | omega | (simp; done) | (simp; omega))))); done) | ((repeat' (first | (with_reducible exact Below.refl _ _) | (with_reducible assumption) | (with_reducible refine belowThru ?_ (by assumption)) | (with_reducible refine belowAlloc ?_) | (with_reducible refine Below.setCell ?_ (by first | omega | (simp; done) | (simp; omega)) _) | (with_reducible refine Below.drew ?_) | (with_reducible refine below_drewN ?_ _))); done))))
  clear hK K hHeld
  have hHeld := hHeldN
  clear hHeldN
  try simp only [Act.put, List.setIfInBounds_toArray, List.set_cons_zero, List.set_cons_succ]
  refine wpAnyH_done (by kernel_rfl) ?_ _
  obtain ⟨-, pB⟩ := hHeld
  go_wp2_with fail
  go_ret
  exact ⟨rfl, pB⟩
end Go.Proofs.Ytghmjdmiaajbnaa
