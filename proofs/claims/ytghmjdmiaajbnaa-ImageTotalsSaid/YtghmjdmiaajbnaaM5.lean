/-
  The texts that the laws of this seat share, merged: part 5.
-/
import Derived.BigQuiet
import Derived.Deep.CutRange
import Derived.Deep.DeepCutAuto
import Derived.Deep.Draws
import Derived.Deep.OwnRows
import Derived.Deep.QuietTactic
import Derived.Deep.RegionHeld3
import Derived.Laws.AppendOwn
import Derived.Lib.Hide
import Derived.LoopIn
import Derived.LoopNIn
import Derived.Maps.AppendAt
import Derived.OneCell
import Derived.Orders
import Derived.OwnWalkIn
import Derived.RangeFuncBound
import Derived.RangeFuncCalls
import Derived.RangeFuncLeaves
import Derived.RangeFuncNested
import Derived.Shelf.Abstract
import Derived.Shelf.AbstractIn
import Derived.Shelf.RegionOpen
import Derived.StillTailTactics
import Derived.TacticsInMore
import Derived.Test.YtghmjdmiaajbnaaProg
import Derived.WalkKit
import Derived.WalkSmall
import Derived.WalkSpells
import Derived.Test.YtghmjdmiaajbnaaM1
import Derived.Test.YtghmjdmiaajbnaaM2
import Derived.Test.YtghmjdmiaajbnaaM4
/-
  Layer 2: the sum of a rectangle, by the code; sums of rows and columns, all answers.
-/
namespace Go.Proofs.Ytghmjdmiaajbnaa
open Go.RowKit Go.Shelf
set_option linter.unusedVariables false
set_option linter.unusedSimpArgs false

attribute [local go_sem] Oper.semAt_some

set_option maxHeartbeats 1000000 in
theorem ordered_any (p q r s : Int) (w : World) : Calls Try.prog 93 #[.int .i64 p, .int .i64 q, .int .i64 r, .int .i64 s] w fun e w' => e = .returned (.bool (decide (p ≤ q ∧ q ≤ r ∧ r ≤ s))) ∧ w = w' := by
  by_cases h1 : p ≤ q
  · have d1 : decide (p ≤ q) = true := decide_eq_true h1
    by_cases h2 : q ≤ r
    · have d2 : decide (q ≤ r) = true := decide_eq_true h2
      by_cases h3 : r ≤ s
      · have d3 : decide (r ≤ s) = true := decide_eq_true h3
        rw [decide_eq_true (show p ≤ q ∧ q ≤ r ∧ r ≤ s from ⟨h1, h2, h3⟩)]
        clear h1 h2 h3
        go_enter Try.func93, Try.ntmps93
        go_wp2
        go_ret
        exact ⟨rfl, rfl⟩
      · have d3 : decide (r ≤ s) = false := decide_eq_false h3
        rw [decide_eq_false (show ¬ (p ≤ q ∧ q ≤ r ∧ r ≤ s) from fun h => h3 h.2.2)]
        clear h1 h2 h3
        go_enter Try.func93, Try.ntmps93
        go_wp2
        go_ret
        exact ⟨rfl, rfl⟩
    · have d2 : decide (q ≤ r) = false := decide_eq_false h2
      rw [decide_eq_false (show ¬ (p ≤ q ∧ q ≤ r ∧ r ≤ s) from fun h => h2 h.2.1)]
      clear h1 h2
      go_enter Try.func93, Try.ntmps93
      go_wp2
      go_ret
      exact ⟨rfl, rfl⟩
  · have d1 : decide (p ≤ q) = false := decide_eq_false h1
    rw [decide_eq_false (show ¬ (p ≤ q ∧ q ≤ r ∧ r ≤ s) from fun h => h1 h.1)]
    clear h1
    go_enter Try.func93, Try.ntmps93
    go_wp2
    go_ret
    exact ⟨rfl, rfl⟩

theorem alloc2s (w : World) (c0 : Array Value) (t0 : TypeId) (c1 : Array Value) (t1 : TypeId) :
    ∃ W0, (w.alloc (.cells c0 t0)).alloc (.cells c1 t1) = W0 ∧ Blk W0 w.heap.size c0 t0 ∧ Blk W0 (w.heap.size + 1) c1 t1 ∧ Below w.heap.size w W0 ∧ W0.heap.size = w.heap.size + 1 + 1 :=
  ⟨_, rfl, Blk.alloc (Blk.new rfl), Blk.new (by simp), by (repeat' (first | (with_reducible exact Below.refl _ _) | (with_reducible assumption) | (with_reducible refine belowThru ?_ (by assumption)) | (with_reducible refine belowAlloc ?_) | (with_reducible refine Below.setCell ?_ (by first | omega | (simp; done) | (simp; omega)) _) | (with_reducible refine Below.drew ?_) | (with_reducible refine below_drewN ?_ _))), by simp⟩
/-- The sum of the values of some pixels that lie in a set of places. -/
def pickP {N : Nat} {zs : List Int} (B : Nat → Bool) (pre : List (Pel N (ValR zs))) : Int := (pre.map fun x => if B x.1.1 then x.1.2 else 0).foldl (· + ·) 0
theorem pickP_snoc {N : Nat} {zs : List Int} (B : Nat → Bool) (pre : List (Pel N (ValR zs))) (x : Pel N (ValR zs)) : pickP B (pre ++ [x]) = pickP B pre + if B x.1.1 then x.1.2 else 0 := by
  unfold pickP; rw [List.map_append, List.foldl_append]; rfl
theorem pickP_bd {N : Nat} {zs : List Int} (B : Nat → Bool) (pre : List (Pel N (ValR zs))) : -((pre.length : Int) * 2147483648) ≤ pickP B pre ∧ pickP B pre ≤ (pre.length : Int) * 2147483648 := by
  rw [← List.reverse_reverse pre]
  generalize pre.reverse = l
  induction l with
  | nil => simp [pickP]
  | cons x l ih =>
    rw [List.reverse_cons, pickP_snoc, List.length_append, List.length_singleton]
    have hv := x.2.2.2
    unfold okV at hv
    split <;> omega
theorem pickP_all {N : Nat} {zs : List Int} (B : Nat → Bool) {xs : List (Pel N (ValR zs))} (h : PixAll N xs) : pickP B xs = sumN (fun i => if B i then zs[i]?.getD 0 else 0) N := by
  rw [← fold_range, ← (show xs.map (fun x => x.1.1) = List.range N from h), List.map_map]
  unfold pickP
  congr 1
  refine List.map_congr_left fun x _ => ?_
  show _ = if B x.1.1 then zs[x.1.1]?.getD 0 else 0
  rw [x.2.2.1]; rfl
/-- The pixel lies in the rectangle. -/
def inB (W x0 y0 x1 y1 : Int) (k : Nat) : Bool := decide ((x0 ≤ (k : Int) % W ∧ (k : Int) % W < x1) ∧ y0 ≤ (k : Int) / W ∧ (k : Int) / W < y1)

set_option maxRecDepth 100000 in
set_option maxHeartbeats 8000000 in
theorem box_in (n : Nat) (hn : 3 ≤ n) (W H x0 y0 x1 y1 : Int) (bb off m c : Nat) (zs : List Int) (hI : okI W H zs) (hm : zs.length = m) (hx : 0 ≤ x0 ∧ x0 ≤ x1 ∧ x1 ≤ W) (hy : 0 ≤ y0 ∧ y0 ≤ y1 ∧ y1 ≤ H)
    (w : World) (hbb : bb < w.heap.size) (hR : ∀ j, j < m → ∃ z, ValR zs j z ∧ w.cell? ⟨bb, off + j, none⟩ = some (.int .i64 z))
    (HK : Hid (∀ w1, Below w.heap.size w w1 → Calls Try.prog 51 #[.agg #[.int .i64 W, .int .i64 H, .slice (some ⟨bb, off, none⟩) m c]] w1 fun e w' => e = .returned (.int .i64 0) ∧ Below w1.heap.size w1 w')) :
    CallsIn Fence.wide n Try.prog 48 #[.agg #[.int .i64 W, .int .i64 H, .slice (some ⟨bb, off, none⟩) m c], .int .i64 x0, .int .i64 y0, .int .i64 x1, .int .i64 y1] w fun e w' => e = .returned (.tuple #[.int .i64 (sumN (fun i => if inB W x0 y0 x1 y1 i then zs[i]?.getD 0 else 0) m), .int .i64 0]) ∧ Below w.heap.size w w' := by
  obtain ⟨⟨⟨w0, w1⟩, h0, h1⟩, hL, -⟩ := hI
  have hmul := okS_mul ⟨w0, w1⟩ ⟨h0, h1⟩
  have m1 : 1 ≤ m := by omega
  have m2 : m ≤ 256 := by omega
  have HR := Lib.hid hR
  have HO1 : Hid (∀ w, Calls Try.prog 93 #[.int .i64 0, .int .i64 x0, .int .i64 x1, .int .i64 W] w fun e w' => e = .returned (.bool true) ∧ w = w') := fun w => by have := ordered_any 0 x0 x1 W w; rwa [decide_eq_true hx] at this
  have HO2 : Hid (∀ w, Calls Try.prog 93 #[.int .i64 0, .int .i64 y0, .int .i64 y1, .int .i64 H] w fun e w' => e = .returned (.bool true) ∧ w = w') := fun w => by have := ordered_any 0 y0 y1 H w; rwa [decide_eq_true hy] at this
  clear hR hL hmul hm hx hy
  refine callsIn_of_wp_marks Try.func48 rfl trivial ?_ rfl
  simp only [Try.ntmps48, List.size_toArray, List.length_cons, List.length_nil, Nat.reduceAdd, Nat.reduceSub, Array.replicate_succ, Array.replicate_zero, List.push_toArray, List.append_toArray, List.nil_append, List.cons_append]
  have n1 : 1 ≤ n := by omega
  have n2 : 1 ≤ n - 1 - 1 := by omega
  have hmx : Try.prog.follows .mixedOrders = true := by kernel_rfl
  gi_wp2_with (first
    | ((try (refine ⟨trivial, ?_⟩)); gi_at_call 51; refine (callsIn_wide.2 (HK.out _ (by (repeat' (first | (with_reducible exact Below.refl _ _) | (with_reducible assumption) | (with_reducible refine belowThru ?_ (by assumption)) | (with_reducible refine belowAlloc ?_) | (with_reducible refine Below.setCell ?_ (by first | omega | (simp; done) | (simp; omega)) _) | (with_reducible refine Below.drew ?_) | (with_reducible refine below_drewN ?_ _)))))).mono ?_; rintro e wA ⟨rfl, hbA⟩; have km : Blk wA w.heap.size #[.int .i64 W, .int .i64 H, .slice (some ⟨bb, off, none⟩) m c] 24 := Blk.later hbA (Blk.alloc (Blk.alloc (Blk.alloc (Blk.alloc (Blk.new rfl))))); have kx0 : Blk wA (w.heap.size + 1) #[.int .i64 x0] 3 := Blk.later hbA (Blk.alloc (Blk.alloc (Blk.alloc (Blk.new (by simp))))); have ky0 : Blk wA (w.heap.size + 1 + 1) #[.int .i64 y0] 3 := Blk.later hbA (Blk.alloc (Blk.alloc (Blk.new (by simp)))); have kx1 : Blk wA (w.heap.size + 1 + 1 + 1) #[.int .i64 x1] 3 := Blk.later hbA (Blk.alloc (Blk.new (by simp))); have ky1 : Blk wA (w.heap.size + 1 + 1 + 1 + 1) #[.int .i64 y1] 3 := Blk.later hbA (Blk.new (by simp)); obtain ⟨am, bm⟩ := km.read; obtain ⟨ax0, bx0⟩ := kx0.read; obtain ⟨ay0, by0⟩ := ky0.read; obtain ⟨ax1, bx1⟩ := kx1.read; obtain ⟨ay1, by1⟩ := ky1.read; have zM := km.lt; have zM1 : w.heap.size < wA.heap.size + 1 := Nat.lt_succ_of_lt zM; have zY := ky1.lt; have hBA : Below w.heap.size w wA := (by (repeat' (first | (with_reducible exact Below.refl _ _) | (with_reducible assumption) | (with_reducible refine belowThru ?_ (by assumption)) | (with_reducible refine belowAlloc ?_) | (with_reducible refine Below.setCell ?_ (by first | omega | (simp; done) | (simp; omega)) _) | (with_reducible refine Below.drew ?_) | (with_reducible refine below_drewN ?_ _)))))
    | ((try (refine ⟨trivial, ?_⟩)); gi_at_call 93; (with_reducible refine (callsIn_wide.2 (HO1.out _)).mono ?_); rintro e w' ⟨rfl, rfl⟩)
    | ((try (refine ⟨trivial, ?_⟩)); gi_at_call 93; (with_reducible refine (callsIn_wide.2 (HO2.out _)).mono ?_); rintro e w' ⟨rfl, rfl⟩)
    | ((try (refine ⟨trivial, ?_⟩)); gi_at_call 69; refine (callsIn_wide.2 (pixels_any _ _ _ _ _ _)).mono ?_; rintro e w' ⟨rfl, rfl⟩))
  clear am bm ax0 bx0 ay0 by0 ax1 bx1 ay1 by1
  obtain ⟨W0, hW0, kS, kP, hB9, hsz⟩ := alloc2s wA #[.int .i64 0] 3 #[.int .i64 W, .int .i64 H, .slice (some ⟨bb, off, none⟩) m c] 86
  rw [hW0]
  have hB0 : Below w.heap.size w W0 := hBA.trans (hB9.mono hBA.size)
  have kx0' := Blk.later hB9 kx0; have ky0' := Blk.later hB9 ky0; have kx1' := Blk.later hB9 kx1; have ky1' := Blk.later hB9 ky1
  clear hW0
  have hG0 : PixG (wA.heap.size + 1) bb off m c W H (ValR zs) W0 :=
    ⟨kP.cells 0, kP.cells 1, kP.cells 2, fun j hj => by obtain ⟨z, hz, hc⟩ := HR.out j hj; exact ⟨z, hz, cell_later hB0 hc⟩⟩
  refine wpIn_rangeFunc_ownH rfl n1 (gf := 110) (lb := #[.pointer (some ⟨wA.heap.size + 1, 0, none⟩)]) rfl trivial (enters_of Try.func110 (by kernel_rfl) rfl)
    (pix_stops (n - 1) (wA.heap.size + 1) bb off m c W H (ValR zs) (by omega) w0 (by omega) W0 (by omega) (by omega) hG0)
    (fun hAB hBC hA => hBC (hAB hA))
    (fun W1 l o o' hl ho hc _ hG => PixG.putObj hG ho hc)
    (Below.refl _ _) (fun _ => rfl)
    (fun pre W1 => Blk W1 wA.heap.size #[.int .i64 (pickP (inB W x0 y0 x1 y1) pre)] 3 ∧ (Blk W1 (w.heap.size + 1) #[.int .i64 x0] 3 ∧ Blk W1 (w.heap.size + 1 + 1) #[.int .i64 y0] 3 ∧ Blk W1 (w.heap.size + 1 + 1 + 1) #[.int .i64 x1] 3 ∧ Blk W1 (w.heap.size + 1 + 1 + 1 + 1) #[.int .i64 y1] 3 ∧ Blk W1 (wA.heap.size + 1) #[.int .i64 W, .int .i64 H, .slice (some ⟨bb, off, none⟩) m c] 86) ∧ Below w.heap.size w W1)
    (fun _ _ _ => False)
    (fun s X Y row hs hg hr => by
      obtain ⟨kz, ⟨b0, b1, b2, b3, b4⟩, hb⟩ := hs
      have hr' := fun r e => (hr r e).2
      exact ⟨kz.own hg hr', ⟨b0.own hg hr', b1.own hg hr', b2.own hg hr', b3.own hg hr', b4.own hg hr'⟩, ownFrom_below (β := Unit) (Nat.le_refl _) hB0.size () X Y row hb hg hr⟩)
    (fun _ _ _ _ _ hs _ _ => hs)
    ⟨kS, ⟨kx0', ky0', kx1', ky1', kP⟩, hB0⟩
    (fun x a' W1 => ∃ Bx, Blk W1 Bx #[.int .i64 ((x.1.1 : Int) % W), .int .i64 ((x.1.1 : Int) / W)] 83 ∧ wA.heap.size + 1 < Bx ∧ a' = { tmps := #[.agg #[.int .i64 W, .int .i64 H, .slice (some ⟨bb, off, none⟩) m c], .int .i64 x0, .int .i64 y0, .int .i64 x1, .int .i64 y1, .pointer (some ⟨w.heap.size, 0, none⟩), .pointer (some ⟨w.heap.size + 1, 0, none⟩), .pointer (some ⟨w.heap.size + 1 + 1, 0, none⟩), .pointer (some ⟨w.heap.size + 1 + 1 + 1, 0, none⟩), .pointer (some ⟨w.heap.size + 1 + 1 + 1 + 1, 0, none⟩), .int .i64 0, .int .i64 0, .int .i64 0, .pointer (some ⟨wA.heap.size, 0, none⟩), .pointer (some ⟨Bx, 0, none⟩), .int .i64 x.1.2, .agg #[.int .i64 W, .int .i64 H, .slice (some ⟨bb, off, none⟩) m c], .int .i64 0, .int .i64 0, .bool false, undef, .int .i64 x0, .int .i64 x1, .pointer (some ⟨w.heap.size, 0, none⟩), .int .i64 W, .bool true, .bool false, .bool false, .int .i64 y0, .int .i64 y1, .pointer (some ⟨w.heap.size, 1, none⟩), .int .i64 H, .bool true, .bool false, .bool false, .agg #[.int .i64 W, .int .i64 H, .slice (some ⟨bb, off, none⟩) m c], .func (.func 110) #[] #[.pointer (some ⟨wA.heap.size + 1, 0, none⟩)], .agg #[.int .i64 ((x.1.1 : Int) % W), .int .i64 ((x.1.1 : Int) / W)], .int .i64 x.1.2, undef, undef, undef, undef, undef, undef, undef, undef, undef, undef, undef, undef, undef, undef, undef, undef, undef, undef, undef, undef, undef, undef, undef, undef, undef, undef], defers := [] })
    (fun x a' _ X Y row hs hg hr => by obtain ⟨Bx, h1, h2, h3⟩ := hs; exact ⟨Bx, h1.own hg (fun r e => (hr r e).2), h2, h3⟩)
    ?assign ?body ?done ?stop
  case assign =>
    rintro l pre x W1 K ⟨kz, ⟨b0, b1, b2, b3, b4⟩, hb⟩ hK
    have hsz1 := b4.lt
    simp only [pxEnc]
    gi_wp2
    exact hK _ _ ((KeepsOthers.alloc _ _).from _) (fun hG => hG.alloc _) ⟨kz.alloc, ⟨b0.alloc, b1.alloc, b2.alloc, b3.alloc, b4.alloc⟩, hb.alloc hb.size _⟩ ⟨W1.heap.size, Blk.new rfl, by omega, rfl⟩
  case body =>
    rintro l pre x a' W1 hl _ ⟨k0, ⟨k1, k2, k3, k4, k5⟩, hB⟩ ⟨Bx, k6, hx, rfl⟩ hlt
    obtain ⟨⟨k, z⟩, hk, ht⟩ := x
    dsimp only at hk k6 ⊢
    have hbd := pickP_bd (inB W x0 y0 x1 y1) pre
    obtain ⟨px, hpx⟩ : ∃ px, (k : Int) % W = px := ⟨_, rfl⟩
    obtain ⟨py, hpy⟩ : ∃ py, (k : Int) / W = py := ⟨_, rfl⟩
    obtain ⟨u, hue⟩ : ∃ u, pickP (inB W x0 y0 x1 y1) pre = u := ⟨_, rfl⟩
    rw [hpx, hpy] at k6 ⊢
    rw [hue] at hbd k0
    have hzb := ht.2
    unfold okV at hzb
    have q0 : -549755813888 ≤ u := by omega
    have q1 : u ≤ 549755813888 := by omega
    obtain ⟨q2, q3⟩ := hzb
    clear hbd
    obtain ⟨a0, b0⟩ := k0.read; obtain ⟨a1, b1⟩ := k1.read; obtain ⟨a2, b2⟩ := k2.read; obtain ⟨a3, b3⟩ := k3.read; obtain ⟨a4, b4⟩ := k4.read; obtain ⟨a6, b6⟩ := k6.read
    have zs0 := k0.lt
    have zY1 := zY
    have hbA := hBA.size
    clear hG0 kS kP km kx0 ky0 kx1 ky1 kx0' ky0' kx1' ky1' hB9
    by_cases h : (x0 ≤ px ∧ px < x1) ∧ y0 ≤ py ∧ py < y1
    · have q9 := h
      have d1 : decide (x0 ≤ px) = true := decide_eq_true h.1.1
      have d2 : decide (px < x1) = true := decide_eq_true h.1.2
      have d3 : decide (y0 ≤ py) = true := decide_eq_true h.2.1
      have d4 : decide (py < y1) = true := decide_eq_true h.2.2
      have hu' : pickP (inB W x0 y0 x1 y1) (pre ++ [⟨(k, z), hk, ht⟩]) = u + z := by rw [pickP_snoc, hue]; show u + (if inB W x0 y0 x1 y1 k = true then z else 0) = _; rw [if_pos (by unfold inB; rw [hpx, hpy]; exact decide_eq_true h)]
      have HU := Lib.hid hu'
      clear h hu' hue hpx hpy
      gi_wp2
      refine ⟨(KeepsOthers.setCell _ _ _).from _, fun h => h.set (by omega) (by omega), ?_, ⟨Blk.other k1 (by simp; omega), Blk.other k2 (by simp; omega), Blk.other k3 (by simp; omega), Blk.other k4 (by simp; omega), Blk.other k5 (by simp)⟩, by (repeat' (first | (with_reducible exact Below.refl _ _) | (with_reducible assumption) | (with_reducible refine belowThru ?_ (by assumption)) | (with_reducible refine belowAlloc ?_) | (with_reducible refine Below.setCell ?_ (by first | omega | (simp; done) | (simp; omega)) _) | (with_reducible refine Below.drew ?_) | (with_reducible refine below_drewN ?_ _)))⟩
      rw [HU.out]
      exact Blk.set k0
    · have hu' : pickP (inB W x0 y0 x1 y1) (pre ++ [⟨(k, z), hk, ht⟩]) = u := by rw [pickP_snoc, hue]; show u + (if inB W x0 y0 x1 y1 k = true then z else 0) = _; rw [if_neg (by unfold inB; rw [hpx, hpy]; simpa using h), Int.add_zero]
      have HU := Lib.hid hu'
      have HN := Lib.hid h
      clear h hu' hue hpx hpy
      by_cases h1 : x0 ≤ px
      · have d1 : decide (x0 ≤ px) = true := decide_eq_true h1
        by_cases h2 : px < x1
        · have d2 : decide (px < x1) = true := decide_eq_true h2
          by_cases h3 : y0 ≤ py
          · have d3 : decide (y0 ≤ py) = true := decide_eq_true h3
            by_cases h4 : py < y1
            · exact absurd ⟨⟨h1, h2⟩, h3, h4⟩ HN.out
            · have d4 : decide (py < y1) = false := decide_eq_false h4
              clear h1 h2 h3 h4 HN
              gi_wp2
              refine ⟨KeepsFrom.refl _ _, fun h => h, ?_, ⟨k1, k2, k3, k4, k5⟩, hB⟩
              rw [HU.out]
              exact k0
          · have d3 : decide (y0 ≤ py) = false := decide_eq_false h3
            clear h1 h2 h3 HN
            gi_wp2
            refine ⟨KeepsFrom.refl _ _, fun h => h, ?_, ⟨k1, k2, k3, k4, k5⟩, hB⟩
            rw [HU.out]
            exact k0
        · have d2 : decide (px < x1) = false := decide_eq_false h2
          clear h1 h2 HN
          gi_wp2
          refine ⟨KeepsFrom.refl _ _, fun h => h, ?_, ⟨k1, k2, k3, k4, k5⟩, hB⟩
          rw [HU.out]
          exact k0
      · have d1 : decide (x0 ≤ px) = false := decide_eq_false h1
        clear h1 HN
        gi_wp2
        refine ⟨KeepsFrom.refl _ _, fun h => h, ?_, ⟨k1, k2, k3, k4, k5⟩, hB⟩
        rw [HU.out]
        exact k0
  case done =>
    rintro D xs W1 hD hall ⟨kz, ⟨b0, b1, b2, b3, b4⟩, hb⟩ hK
    rw [pickP_all _ hall] at kz
    obtain ⟨e1, f1⟩ := kz.read
    gi_wp2
    have hAz := hBA.size
    refine ⟨by simp, .inl ⟨_, _, rfl, run_takeDeferred hK, ?_⟩⟩
    refine ⟨.tuple #[.int .i64 (sumN (fun i => if inB W x0 y0 x1 y1 i then zs[i]?.getD 0 else 0) m), .int .i64 0], ?_, rfl, hb.trans (belowK_b (w := w) (Nat.le_refl _) W1 D _ _ (by omega) hK rfl rfl)⟩
    simp only [results, Try.results48]
    go_simp
  case stop =>
    rintro D c pre W1 _ _ h _
    exact h.elim

end Go.Proofs.Ytghmjdmiaajbnaa
/-
  Layer 2: quotients, rounded down; sources of a warp; whether a place is a pixel.
-/
namespace Go.Proofs.Ytghmjdmiaajbnaa
open Go.RowKit
set_option linter.unusedVariables false
set_option linter.unusedSimpArgs false

theorem ediv_unique {d q r q' r' : Int} (h : d * q + r = d * q' + r') (h0 : 0 ≤ r) (h1 : r < d) (h2 : 0 ≤ r') (h3 : r' < d) : q = q' := by
  have e : d * (q - q') = r' - r := by rw [Int.mul_sub]; omega
  rcases Int.lt_trichotomy (q - q') 0 with k | k | k
  · have := Int.mul_le_mul_of_nonneg_left (show q - q' ≤ -1 by omega) (show 0 ≤ d by omega)
    omega
  · omega
  · have := Int.mul_le_mul_of_nonneg_left (show 1 ≤ q - q' by omega) (show 0 ≤ d by omega)
    omega
/-- A quotient that is rounded down, out of the machine's own. -/
theorem floor_of (n d : Int) (hd : 1 ≤ d) : (n.tmod d < 0 → n / d = n.tdiv d - 1) ∧ (¬ n.tmod d < 0 → n / d = n.tdiv d) := by
  have h1 := Int.mul_tdiv_add_tmod n d
  have h2 := Int.mul_ediv_add_emod n d
  have h3 := Int.emod_nonneg n (show d ≠ 0 by omega)
  have h4 := Int.emod_lt_of_pos n (show 0 < d by omega)
  have h5 : n.tmod d < d ∧ -d < n.tmod d := by
    have e : n.tmod d = -((-n).tmod d) := by rw [Int.neg_tmod, Int.neg_neg]
    have q1 := Int.tmod_lt_of_pos n (show 0 < d by omega)
    have q2 := Int.tmod_lt_of_pos (-n) (show 0 < d by omega)
    omega
  constructor
  · intro h
    have e : n / d = (n.tdiv d - 1) := by
      have : d * (n / d) + n % d = d * (n.tdiv d - 1) + (n.tmod d + d) := by rw [h2, Int.mul_sub, Int.mul_one]; omega
      exact ediv_unique this h3 h4 (by omega) (by omega)
    exact e
  · intro h
    have : d * (n / d) + n % d = d * (n.tdiv d) + n.tmod d := by rw [h2, h1]
    exact ediv_unique this h3 h4 (by omega) (by omega)
theorem tdiv_in (n d : Int) (hd : 1 ≤ d) (m : Int) (h1 : -m ≤ n) (h2 : n ≤ m) : -m ≤ n.tdiv d ∧ n.tdiv d ≤ m := by
  have h0 := Int.natAbs_tdiv n d
  have h3 : (n.tdiv d).natAbs ≤ n.natAbs := by rw [h0]; exact Nat.div_le_self _ _
  omega
set_option maxHeartbeats 1000000 in
theorem quotient_any (n d : Int) (hd : 1 ≤ d) (h1 : -1152921504606846976 ≤ n) (h2 : n ≤ 1152921504606846976) (h3 : d ≤ 1152921504606846976) (w : World) :
    Calls Try.prog 56 #[.int .i64 n, .int .i64 d] w fun e w' => e = .returned (.int .i64 (n / d)) ∧ w = w' := by
  have f1 := (floor_of n d hd).1
  have f2 := (floor_of n d hd).2
  have hb := tdiv_in n d hd _ h1 h2
  have hw : IntKind.i64.wrap (n.tdiv d) = n.tdiv d := IntWalk.i64_in _ (by omega)
  have hz : ¬ d = 0 := by omega
  by_cases hm : n.tmod d < 0
  · have f := f1 hm
    have F := Lib.hid f
    clear f f1 f2
    go_enter Try.func56, Try.ntmps56
    go_wp2
    go_ret
    exact ⟨ret_int F.out.symm, rfl⟩
  · have f := f2 hm
    have F := Lib.hid f
    clear f f1 f2
    go_enter Try.func56, Try.ntmps56
    go_wp2
    go_ret
    exact ⟨ret_int F.out.symm, rfl⟩
/-- A pair of numbers is a pixel. -/
def inP (W H x y : Int) : Prop := (0 ≤ x ∧ x < W) ∧ (0 ≤ y ∧ y < H)
instance (W H x y : Int) : Decidable (inP W H x y) := inferInstanceAs (Decidable (_ ∧ _))
set_option maxHeartbeats 1000000 in
theorem has_any (W H x y : Int) (a : Option Addr) (n c : Nat) (w : World) :
    Calls Try.prog 83 #[.agg #[.int .i64 W, .int .i64 H, .slice a n c], .agg #[.int .i64 x, .int .i64 y]] w fun e w' => e = .returned (.bool (decide (inP W H x y))) ∧ Below w.heap.size w w' := by
  by_cases h : inP W H x y
  · rw [decide_eq_true h]
    obtain ⟨⟨h1, h2⟩, h3, h4⟩ := h
    go_enter Try.func83, Try.ntmps83
    go_wp2
    go_ret
    exact ⟨rfl, by (repeat' (first | (with_reducible exact Below.refl _ _) | (with_reducible assumption) | (with_reducible refine belowThru ?_ (by assumption)) | (with_reducible refine belowAlloc ?_) | (with_reducible refine Below.setCell ?_ (by first | omega | (simp; done) | (simp; omega)) _) | (with_reducible refine Below.drew ?_) | (with_reducible refine below_drewN ?_ _)))⟩
  · rw [decide_eq_false h]
    by_cases h1 : 0 ≤ x
    · by_cases h2 : x < W
      · by_cases h3 : 0 ≤ y
        · have h4 : ¬ y < H := fun h4 => h ⟨⟨h1, h2⟩, h3, h4⟩
          clear h
          go_enter Try.func83, Try.ntmps83
          go_wp2
          go_ret
          exact ⟨rfl, by (repeat' (first | (with_reducible exact Below.refl _ _) | (with_reducible assumption) | (with_reducible refine belowThru ?_ (by assumption)) | (with_reducible refine belowAlloc ?_) | (with_reducible refine Below.setCell ?_ (by first | omega | (simp; done) | (simp; omega)) _) | (with_reducible refine Below.drew ?_) | (with_reducible refine below_drewN ?_ _)))⟩
        · clear h
          go_enter Try.func83, Try.ntmps83
          go_wp2
          go_ret
          exact ⟨rfl, by (repeat' (first | (with_reducible exact Below.refl _ _) | (with_reducible assumption) | (with_reducible refine belowThru ?_ (by assumption)) | (with_reducible refine belowAlloc ?_) | (with_reducible refine Below.setCell ?_ (by first | omega | (simp; done) | (simp; omega)) _) | (with_reducible refine Below.drew ?_) | (with_reducible refine below_drewN ?_ _)))⟩
      · clear h
        go_enter Try.func83, Try.ntmps83
        go_wp2
        go_ret
        exact ⟨rfl, by (repeat' (first | (with_reducible exact Below.refl _ _) | (with_reducible assumption) | (with_reducible refine belowThru ?_ (by assumption)) | (with_reducible refine belowAlloc ?_) | (with_reducible refine Below.setCell ?_ (by first | omega | (simp; done) | (simp; omega)) _) | (with_reducible refine Below.drew ?_) | (with_reducible refine below_drewN ?_ _)))⟩
    · clear h
      go_enter Try.func83, Try.ntmps83
      go_wp2
      go_ret
      exact ⟨rfl, by (repeat' (first | (with_reducible exact Below.refl _ _) | (with_reducible assumption) | (with_reducible refine belowThru ?_ (by assumption)) | (with_reducible refine belowAlloc ?_) | (with_reducible refine Below.setCell ?_ (by first | omega | (simp; done) | (simp; omega)) _) | (with_reducible refine Below.drew ?_) | (with_reducible refine below_drewN ?_ _)))⟩
end Go.Proofs.Ytghmjdmiaajbnaa
/-
  Layer 2: pixels by their places; the source of a pixel in a warp.
-/
namespace Go.Proofs.Ytghmjdmiaajbnaa
open Go.RowKit
set_option linter.unusedVariables false
set_option linter.unusedSimpArgs false

/-- The value of a pixel. -/
def pixAt (W : Int) (zs : List Int) (x y : Int) : Int := zs[(y * W + x).toNat]?.getD 0
theorem inP_at {W H x y : Int} (hW : okS W) (hH : okS H) (h : inP W H x y) : ∃ p : Nat, y * W + x = (p : Int) ∧ (p : Int) < W * H ∧ 0 ≤ y * W ∧ y * W ≤ 256 := by
  obtain ⟨⟨x0, x1⟩, y0, y1⟩ := h
  obtain ⟨w0, w1⟩ := hW
  obtain ⟨h0, h1⟩ := hH
  have a := Int.mul_nonneg y0 (show 0 ≤ W by omega)
  have b := Int.mul_le_mul_of_nonneg_right (show y + 1 ≤ H by omega) (show 0 ≤ W by omega)
  have c := Int.mul_le_mul (show y ≤ 16 by omega) w1 (by omega) (by omega)
  have e : (y + 1) * W = y * W + W := by rw [Int.add_mul, Int.one_mul]
  have f : H * W = W * H := Int.mul_comm _ _
  exact ⟨(y * W + x).toNat, by omega, by omega, a, by omega⟩
set_option maxHeartbeats 1000000 in
/-- The value of a pixel of a valid image. -/
theorem at_z (W H x y : Int) (a : Option Addr) (n c : Nat) (zs : List Int) (hI : okI W H zs) (hp : inP W H x y) (w : World) (hR : Row w a n (iv zs)) :
    Calls Try.prog 57 #[.agg #[.int .i64 W, .int .i64 H, .slice a n c], .agg #[.int .i64 x, .int .i64 y]] w fun e w' => e = .returned (.int .i64 (pixAt W zs x y)) ∧ Below w.heap.size w w' := by
  obtain ⟨⟨hW, hH⟩, hL, -⟩ := hI
  obtain ⟨p, e, hlt, -, -⟩ := inP_at hW hH hp
  have hn : zs.length = n := by have := hR.1; rwa [iv_length] at this
  obtain ⟨b, off, z, rfl, -, hz, hc⟩ := hR.int (show p < n by omega)
  have hv : pixAt W zs x y = z := by unfold pixAt; rw [e, Int.toNat_natCast, hz]; rfl
  rw [hv]
  obtain ⟨⟨x0, x1⟩, y0, y1⟩ := hp
  obtain ⟨w0, w1⟩ := hW
  obtain ⟨h0, h1⟩ := hH
  exact at_any W H x y p b off n c z (Lib.hid e) y0 (by omega) (by omega) (by omega) x0 (by omega) (by omega) w hc
/-! ### The source of a pixel -/
/-- A number that may be a factor. -/
def okFa (n : Int) : Prop := -65536 ≤ n ∧ n ≤ 65536
instance (n : Int) : Decidable (okFa n) := inferInstanceAs (Decidable (_ ∧ _))
end Go.Proofs.Ytghmjdmiaajbnaa
/-
  Layer 2: which warps are valid, by the code and by the document.
-/
namespace Go.Proofs.Ytghmjdmiaajbnaa
open Go.RowKit
set_option linter.unusedVariables false
set_option linter.unusedSimpArgs false

/-- A warp that is valid. -/
def okT (tA tB tC tD tE tF tG : Int) : Prop := (okFa tA ∧ okFa tB ∧ okFa tC ∧ okFa tD ∧ okFa tE ∧ okFa tF) ∧ 1 ≤ tG ∧ tG ≤ 65536
instance (tA tB tC tD tE tF tG : Int) : Decidable (okT tA tB tC tD tE tF tG) := inferInstanceAs (Decidable (_ ∧ _))
theorem within_fa (n : Int) (w : World) : Calls Try.prog 95 #[.int .i64 n, .int .i64 65536] w fun e w' => e = .returned (.bool (decide (okFa n))) ∧ w = w' := by
  by_cases h : okFa n
  · rw [decide_eq_true h]; exact within_yes n 65536 (by omega) (by omega) h w
  · rw [decide_eq_false h]; exact within_no n 65536 (by omega) (by omega) (by unfold okFa at h; omega) w
theorem rwithin_fa (n : Int) (w : World) : Calls Try.prog 92 #[.int .i64 n, .int .i64 (-65536), .int .i64 65536] w fun e w' => e = .returned (.bool (decide (okFa n))) ∧ w = w' :=
  rwithin_any n _ _ _ decide_eq_true_iff w
/-- What the first numbers of a warp are known to be. -/
def Six (tA tB tC tD tE tF k : Int) : Prop := (0 < k → okFa tA) ∧ (1 < k → okFa tB) ∧ (2 < k → okFa tC) ∧ (3 < k → okFa tD) ∧ (4 < k → okFa tE) ∧ (5 < k → okFa tF)
theorem Six.start (tA tB tC tD tE tF : Int) : Six tA tB tC tD tE tF 0 := ⟨fun h => absurd h (by omega), fun h => absurd h (by omega), fun h => absurd h (by omega), fun h => absurd h (by omega), fun h => absurd h (by omega), fun h => absurd h (by omega)⟩
theorem Six.all {tA tB tC tD tE tF : Int} (h : Six tA tB tC tD tE tF 6) : okFa tA ∧ okFa tB ∧ okFa tC ∧ okFa tD ∧ okFa tE ∧ okFa tF := ⟨h.1 (by omega), h.2.1 (by omega), h.2.2.1 (by omega), h.2.2.2.1 (by omega), h.2.2.2.2.1 (by omega), h.2.2.2.2.2 (by omega)⟩

theorem Six.s0 {tA tB tC tD tE tF : Int} (h : Six tA tB tC tD tE tF 0) (ok : okFa tA) : Six tA tB tC tD tE tF 1 := ⟨fun _ => ok, fun q => absurd q (by omega), fun q => absurd q (by omega), fun q => absurd q (by omega), fun q => absurd q (by omega), fun q => absurd q (by omega)⟩
theorem Six.s1 {tA tB tC tD tE tF : Int} (h : Six tA tB tC tD tE tF 1) (ok : okFa tB) : Six tA tB tC tD tE tF 2 := ⟨fun _ => h.1 (by omega), fun _ => ok, fun q => absurd q (by omega), fun q => absurd q (by omega), fun q => absurd q (by omega), fun q => absurd q (by omega)⟩
theorem Six.s2 {tA tB tC tD tE tF : Int} (h : Six tA tB tC tD tE tF 2) (ok : okFa tC) : Six tA tB tC tD tE tF 3 := ⟨fun _ => h.1 (by omega), fun _ => h.2.1 (by omega), fun _ => ok, fun q => absurd q (by omega), fun q => absurd q (by omega), fun q => absurd q (by omega)⟩
theorem Six.s3 {tA tB tC tD tE tF : Int} (h : Six tA tB tC tD tE tF 3) (ok : okFa tD) : Six tA tB tC tD tE tF 4 := ⟨fun _ => h.1 (by omega), fun _ => h.2.1 (by omega), fun _ => h.2.2.1 (by omega), fun _ => ok, fun q => absurd q (by omega), fun q => absurd q (by omega)⟩
theorem Six.s4 {tA tB tC tD tE tF : Int} (h : Six tA tB tC tD tE tF 4) (ok : okFa tE) : Six tA tB tC tD tE tF 5 := ⟨fun _ => h.1 (by omega), fun _ => h.2.1 (by omega), fun _ => h.2.2.1 (by omega), fun _ => h.2.2.2.1 (by omega), fun _ => ok, fun q => absurd q (by omega)⟩
theorem Six.s5 {tA tB tC tD tE tF : Int} (h : Six tA tB tC tD tE tF 5) (ok : okFa tF) : Six tA tB tC tD tE tF 6 := ⟨fun _ => h.1 (by omega), fun _ => h.2.1 (by omega), fun _ => h.2.2.1 (by omega), fun _ => h.2.2.2.1 (by omega), fun _ => h.2.2.2.2.1 (by omega), fun _ => ok⟩
end Go.Proofs.Ytghmjdmiaajbnaa
/-
  Layer 2: warped, turned and flipped images, by the code: the value of a place.
-/
namespace Go.Proofs.Ytghmjdmiaajbnaa
open Go.RowKit
set_option linter.unusedVariables false
set_option linter.unusedSimpArgs false

theorem okI_at {W H : Int} {zs : List Int} (hI : okI W H zs) {x y : Int} (hp : inP W H x y) : okV (pixAt W zs x y) := by
  obtain ⟨p, e, hlt, -, -⟩ := inP_at hI.1.1 hI.1.2 hp
  have hl : p < zs.length := by have := hI.2.1; omega
  unfold pixAt
  rw [e, Int.toNat_natCast, List.getElem?_eq_getElem hl]
  exact hI.2.2 _ (List.getElem_mem hl)
theorem inR_ok {v : Int} (h : okV v) : inR v (-2147483648) 2147483648 = v := by unfold inR; obtain ⟨a, b⟩ := h; omega

set_option maxRecDepth 100000 in
set_option maxHeartbeats 2000000 in
theorem turn1_any (W H x y : Int) (a : Option Addr) (n c : Nat) (zs : List Int) (hI : okI W H zs) (hp : inP W H y (H - 1 - x)) (x0 : 0 ≤ x) (x1 : x ≤ 64) (bm : Nat) (w : World)
    (hR : Row w a n (iv zs)) (km : Blk w bm #[.int .i64 W, .int .i64 H, .slice a n c] 24) :
    Calls Try.prog 94 #[.agg #[.int .i64 x, .int .i64 y], .pointer (some ⟨bm, 0, none⟩)] w fun e w' => e = .returned (.int .i64 (pixAt W zs y (H - 1 - x))) ∧ Below w.heap.size w w' := by
  have HA := Lib.hid (fun w hR => at_z W H y (H - 1 - x) a n c zs hI hp w hR)
  have HR := Lib.hid hR
  obtain ⟨⟨-, h0, h1⟩, -⟩ := hI
  have k1 := km.alloc (o := .cells #[.int .i64 x, .int .i64 y] 83)
  obtain ⟨a1, b1⟩ := k1.read
  have z1 := km.lt
  clear hR hp km
  go_enter Try.func94, Try.ntmps94
  go_wp2_with (go_at_call 57; (with_reducible refine (HA.out _ (HR.out.later (by (repeat' (first | (with_reducible exact Below.refl _ _) | (with_reducible assumption) | (with_reducible refine belowThru ?_ (by assumption)) | (with_reducible refine belowAlloc ?_) | (with_reducible refine Below.setCell ?_ (by first | omega | (simp; done) | (simp; omega)) _) | (with_reducible refine Below.drew ?_) | (with_reducible refine below_drewN ?_ _)))))).mono ?_); rintro e w1 ⟨rfl, hb⟩; (try (have zk := k1.lt; (first | ((with_reducible refine Blk.keepG hb k1 (fun h => ?_) ?_); (focus ((repeat' (first | (with_reducible assumption) | ((with_reducible refine Blk.new ?_); first | rfl | (simp; done)) | (with_reducible refine Blk.later (by assumption) ?_) | (with_reducible refine Blk.alloc ?_) | (with_reducible refine Blk.drewN ?_) | (with_reducible refine Blk.drew ?_) | (with_reducible refine Blk.other ?_ (by first | omega | (simp; done) | (simp; omega))))); done)); clear k1; intro k1) | (with_reducible replace k1 := Blk.later hb (Blk.set (Blk.set k1))) | (with_reducible replace k1 := Blk.later hb (Blk.set k1))); clear a1 b1; obtain ⟨a1, b1⟩ := k1.read; have zl := k1.lt)))
  go_ret
  exact ⟨rfl, by (repeat' (first | (with_reducible exact Below.refl _ _) | (with_reducible assumption) | (with_reducible refine belowThru ?_ (by assumption)) | (with_reducible refine belowAlloc ?_) | (with_reducible refine Below.setCell ?_ (by first | omega | (simp; done) | (simp; omega)) _) | (with_reducible refine Below.drew ?_) | (with_reducible refine below_drewN ?_ _)))⟩
end Go.Proofs.Ytghmjdmiaajbnaa
/-
  Layer 2: warped, turned and flipped images, by the code.
-/
namespace Go.Proofs.Ytghmjdmiaajbnaa
open Go.RowKit
set_option linter.unusedVariables false
set_option linter.unusedSimpArgs false

/-- A new slice of these numbers, in memory of its own. -/
def New (B : Nat) (w' : World) (a : Option Addr) (n : Nat) (zs : List Int) : Prop :=
  zs.length = n ∧ ((a = none ∧ n = 0) ∨ ∃ b, a = some ⟨b, 0, none⟩ ∧ B ≤ b ∧ Blk w' b (ints zs) 3)
/-- An image and an error are returned, the image in memory of its own; what was there is as it was. -/
def RetI (W H : Int) (zs : List Int) (E : Int) (w : World) (e : Ending) (w' : World) : Prop :=
  ∃ (a : Option Addr) (n c : Nat), e = .returned (.tuple #[.agg #[.int .i64 W, .int .i64 H, .slice a n c], .int .i64 E]) ∧ New w.heap.size w' a n zs ∧ Below w.heap.size w w'
theorem RetI.none {E : Int} {w w' : World} (h : Below w.heap.size w w') : RetI 0 0 [] E w (.returned (.tuple #[.agg #[.int .i64 0, .int .i64 0, .slice none 0 0], .int .i64 E])) w' := ⟨Option.none, 0, 0, rfl, ⟨rfl, .inl ⟨rfl, rfl⟩⟩, h⟩
theorem RetI.made {W H E : Int} {zs : List Int} {w w' : World} {b n c : Nat} (hn : zs.length = n) (hB : w.heap.size ≤ b) (k : Blk w' b (ints zs) 3) (h : Below w.heap.size w w') :
    RetI W H zs E w (.returned (.tuple #[.agg #[.int .i64 W, .int .i64 H, .slice (some ⟨b, 0, Option.none⟩) n c], .int .i64 E])) w' := ⟨_, _, _, rfl, ⟨hn, .inr ⟨b, rfl, hB, k⟩⟩, h⟩
theorem icheck_ok {W H : Int} {zs : List Int} (h : okI W H zs) (a : Option Addr) (n c : Nat) (hn : n ≤ maxLen) (w : World) (hR : Row w a n (iv zs)) :
    Calls Try.prog 51 #[.agg #[.int .i64 W, .int .i64 H, .slice a n c]] w fun e w' => e = .returned (.int .i64 0) ∧ Below w.heap.size w w' := by
  have := icheck_any W H a n c zs hn w hR; rw [ckI_ok h] at this; exact this
/-- The numbers of a new image. -/
def made (N : Nat) (V : Nat → Int) : List Int := (List.range N).map V
theorem made_length (N : Nat) (V : Nat → Int) : (made N V).length = N := by simp [made]
theorem made_in (N : Nat) (V : Nat → Int) (h : ∀ k, k < N → okV (V k)) : ((List.range N).map fun k => inR (V k) (-2147483648) 2147483648) = made N V :=
  List.map_congr_left (fun k hk => inR_ok (h k (List.mem_range.1 hk)))
theorem place_in {W H : Int} {N k : Nat} (hW : okS W) (hH : okS H) (hN : W * H = (N : Int)) (hk : k < N) : (0 ≤ (k : Int) % W ∧ (k : Int) % W < W) ∧ 0 ≤ (k : Int) / W ∧ (k : Int) / W < H := by
  obtain ⟨w0, w1⟩ := hW
  refine ⟨⟨Int.emod_nonneg _ (by omega), Int.emod_lt_of_pos _ (by omega)⟩, Int.ediv_nonneg (by omega) (by omega), Int.ediv_lt_of_lt_mul (by omega) ?_⟩
  rw [Int.mul_comm, hN]; omega

set_option maxRecDepth 100000 in
set_option maxHeartbeats 4000000 in
theorem turn_ok (W H : Int) (a : Option Addr) (n c : Nat) (zs : List Int) (hI : okI W H zs) (hn : n ≤ maxLen) (w : World) (hR : Row w a n (iv zs)) :
    Calls Try.prog 49 #[.agg #[.int .i64 W, .int .i64 H, .slice a n c]] w (RetI H W (made zs.length fun k => pixAt W zs ((k : Int) / H) (H - 1 - (k : Int) % H)) 0 w) := by
  have HK := Lib.hid (icheck_ok hI a n c hn)
  have HR := Lib.hid hR
  have hN : H * W = (zs.length : Int) := by rw [hI.2.1, Int.mul_comm]
  have hW := hI.1.1
  have hH := hI.1.2
  have hm := okS_mul hH hW
  have HP : Hid (∀ k, k < zs.length → inP W H ((k : Int) / H) (H - 1 - (k : Int) % H)) := fun k hk => by
    have := place_in hH hW hN hk
    unfold inP; omega
  clear hR hn
  go_enter Try.func49, Try.ntmps49
  go_upto_region 4 with (go_at_call 51; (with_reducible refine (HK.out _ (HR.out.later (by (repeat' (first | (with_reducible exact Below.refl _ _) | (with_reducible assumption) | (with_reducible refine belowThru ?_ (by assumption)) | (with_reducible refine belowAlloc ?_) | (with_reducible refine Below.setCell ?_ (by first | omega | (simp; done) | (simp; omega)) _) | (with_reducible refine Below.drew ?_) | (with_reducible refine below_drewN ?_ _)))))).mono ?_); rintro e w1 ⟨rfl, hb⟩; (first | ((with_reducible have k0 := Blk.later hb (Blk.alloc (Blk.new rfl))); (with_reducible have k1 := Blk.later hb (Blk.new rfl)); simp only [World.size_alloc] at k1; obtain ⟨a0, b0⟩ := k0.read; have zl := k0.lt; obtain ⟨a1, b1⟩ := k1.read; have zl := k1.lt) | ((try (have zk := k0.lt; (first | ((with_reducible refine Blk.keepG hb k0 (fun h => ?_) ?_); (focus ((repeat' (first | (with_reducible assumption) | ((with_reducible refine Blk.new ?_); first | rfl | (simp; done)) | (with_reducible refine Blk.later (by assumption) ?_) | (with_reducible refine Blk.alloc ?_) | (with_reducible refine Blk.drewN ?_) | (with_reducible refine Blk.drew ?_) | (with_reducible refine Blk.other ?_ (by first | omega | (simp; done) | (simp; omega))))); done)); clear k0; intro k0) | (with_reducible replace k0 := Blk.later hb (Blk.set (Blk.set k0))) | (with_reducible replace k0 := Blk.later hb (Blk.set k0))); clear a0 b0; obtain ⟨a0, b0⟩ := k0.read; have zl := k0.lt)); (try (have zk := k1.lt; (first | ((with_reducible refine Blk.keepG hb k1 (fun h => ?_) ?_); (focus ((repeat' (first | (with_reducible assumption) | ((with_reducible refine Blk.new ?_); first | rfl | (simp; done)) | (with_reducible refine Blk.later (by assumption) ?_) | (with_reducible refine Blk.alloc ?_) | (with_reducible refine Blk.drewN ?_) | (with_reducible refine Blk.drew ?_) | (with_reducible refine Blk.other ?_ (by first | omega | (simp; done) | (simp; omega))))); done)); clear k1; intro k1) | (with_reducible replace k1 := Blk.later hb (Blk.set (Blk.set k1))) | (with_reducible replace k1 := Blk.later hb (Blk.set k1))); clear a1 b1; obtain ⟨a1, b1⟩ := k1.read; have zl := k1.lt)))))
  have HV := Lib.hid (fun (k : Nat) (hk : k < zs.length) W1 (hW1 : Below _ _ W1) => turn1_any W H ((k : Int) % H) ((k : Int) / H) a n c zs hI (HP.out k hk) (place_in hH hW hN hk).1.1 (by have := place_in hH hW hN hk; unfold okS at hH; omega) w.heap.size W1 (HR.out.later (by (repeat' (first | (with_reducible exact Below.refl _ _) | (with_reducible assumption) | (with_reducible refine belowThru ?_ (by assumption)) | (with_reducible refine belowAlloc ?_) | (with_reducible refine Below.setCell ?_ (by first | omega | (simp; done) | (simp; omega)) _) | (with_reducible refine Below.drew ?_) | (with_reducible refine below_drewN ?_ _))))) (Blk.later hW1 k0))
  have HB := Lib.hid (build_any H W zs.length 94 #[.pointer (some ⟨w.heap.size, 0, none⟩)] (fun k => pixAt W zs ((k : Int) / H) (H - 1 - (k : Int) % H)) hN hH.1 hH.2 hW.1 hW.2 (by omega) (enters_of Try.func94 (by kernel_rfl) rfl) _ HV)
  rw [made_in _ _ (fun k hk => okI_at hI (HP.out k hk))] at HB
  clear HV
  go_wp2_with (go_at_call 53; (with_reducible refine (HB.out).mono ?_); rintro e w2 ⟨B, rfl, hB0, kB, hb⟩; (try (have zk := k0.lt; (first | ((with_reducible refine Blk.keepG hb k0 (fun h => ?_) ?_); (focus ((repeat' (first | (with_reducible assumption) | ((with_reducible refine Blk.new ?_); first | rfl | (simp; done)) | (with_reducible refine Blk.later (by assumption) ?_) | (with_reducible refine Blk.alloc ?_) | (with_reducible refine Blk.drewN ?_) | (with_reducible refine Blk.drew ?_) | (with_reducible refine Blk.other ?_ (by first | omega | (simp; done) | (simp; omega))))); done)); clear k0; intro k0) | (with_reducible replace k0 := Blk.later hb (Blk.set (Blk.set k0))) | (with_reducible replace k0 := Blk.later hb (Blk.set k0))); clear a0 b0; obtain ⟨a0, b0⟩ := k0.read; have zl := k0.lt)); (try (have zk := k1.lt; (first | ((with_reducible refine Blk.keepG hb k1 (fun h => ?_) ?_); (focus ((repeat' (first | (with_reducible assumption) | ((with_reducible refine Blk.new ?_); first | rfl | (simp; done)) | (with_reducible refine Blk.later (by assumption) ?_) | (with_reducible refine Blk.alloc ?_) | (with_reducible refine Blk.drewN ?_) | (with_reducible refine Blk.drew ?_) | (with_reducible refine Blk.other ?_ (by first | omega | (simp; done) | (simp; omega))))); done)); clear k1; intro k1) | (with_reducible replace k1 := Blk.later hb (Blk.set (Blk.set k1))) | (with_reducible replace k1 := Blk.later hb (Blk.set k1))); clear a1 b1; obtain ⟨a1, b1⟩ := k1.read; have zl := k1.lt)))
  exact bodyPost_ret (v := .tuple #[.agg #[.int .i64 H, .int .i64 W, .slice (some ⟨B, 0, none⟩) zs.length zs.length], .int .i64 0]) (by simp only [results, Try.results49]; go_simp) rfl (RetI.made (made_length _ _) (by omega) (by (repeat' (first | (with_reducible assumption) | ((with_reducible refine Blk.new ?_); first | rfl | (simp; done)) | (with_reducible refine Blk.later (by assumption) ?_) | (with_reducible refine Blk.alloc ?_) | (with_reducible refine Blk.drewN ?_) | (with_reducible refine Blk.drew ?_) | (with_reducible refine Blk.other ?_ (by first | omega | (simp; done) | (simp; omega)))))) (by (repeat' (first | (with_reducible exact Below.refl _ _) | (with_reducible assumption) | (with_reducible refine belowThru ?_ (by assumption)) | (with_reducible refine belowAlloc ?_) | (with_reducible refine Below.setCell ?_ (by first | omega | (simp; done) | (simp; omega)) _) | (with_reducible refine Below.drew ?_) | (with_reducible refine below_drewN ?_ _)))))
end Go.Proofs.Ytghmjdmiaajbnaa
/-
  Layer 2: the document's own answers: new images; turned, flipped and warped ones.
-/
namespace Go.Proofs.Ytghmjdmiaajbnaa
open Go.RowKit
set_option linter.unusedVariables false
set_option linter.unusedSimpArgs false

theorem rvalid_ok {W H : Int} {zs : List Int} (h : okI W H zs) (a : Option Addr) (n c : Nat) (hn : n ≤ maxLen) (w : World) (hR : Row w a n (iv zs)) :
    Calls Try.prog 43 #[.agg #[.int .i64 W, .int .i64 H, .slice a n c]] w fun e w' => e = .returned (.bool true) ∧ Below w.heap.size w w' := by
  have := rvalid_any W H a n c zs hn w hR; rw [decide_eq_true h] at this; exact this
theorem rvalid_no {W H : Int} {zs : List Int} (h : ¬ okI W H zs) (a : Option Addr) (n c : Nat) (hn : n ≤ maxLen) (w : World) (hR : Row w a n (iv zs)) :
    Calls Try.prog 43 #[.agg #[.int .i64 W, .int .i64 H, .slice a n c]] w fun e w' => e = .returned (.bool false) ∧ Below w.heap.size w w' := by
  have := rvalid_any W H a n c zs hn w hR; rw [decide_eq_false h] at this; exact this

end Go.Proofs.Ytghmjdmiaajbnaa
/-
  Layer 2: an image in new memory; whether images are equal; an image whose values are changed.
-/
namespace Go.Proofs.Ytghmjdmiaajbnaa
open Go.RowKit
set_option linter.unusedVariables false
set_option linter.unusedSimpArgs false

set_option maxHeartbeats 2000000 in
theorem sameInts_any (a b : Option Addr) (n m c d : Nat) (xs ys : List Int) (hn : n ≤ maxLen) (w : World) (hR : Row w a n (iv xs)) (hS : Row w b m (iv ys)) :
    Calls Try.prog 23 #[.slice a n c, .slice b m d] w fun e w' => e = .returned (.bool (decide (xs = ys))) ∧ Below w.heap.size w w' := by
  unfold maxLen at hn
  have hx : xs.length = n := by have := hR.1; rwa [iv_length] at this
  have hy : ys.length = m := by have := hS.1; rwa [iv_length] at this
  by_cases hl : n = m
  · subst hl
    have HX := Lib.hid hx; have HY := Lib.hid hy; have HR := Lib.hid hR; have HS := Lib.hid hS
    clear hx hy hR hS
    go_enter Try.func23, Try.ntmps23
    go_wp2
    go_loopw [5] (fun i wr => ∃ k : Nat, k ≤ n ∧ i = .int .i64 k ∧ Hid (xs.take k = ys.take k) ∧ Below w.heap.size w wr) (fun i _ => n - (intOf i).toNat)
    case atStart => exact ⟨0, Nat.zero_le _, rfl, (show xs.take 0 = ys.take 0 by simp), by (repeat' (first | (with_reducible exact Below.refl _ _) | (with_reducible assumption) | (with_reducible refine belowThru ?_ (by assumption)) | (with_reducible refine belowAlloc ?_) | (with_reducible refine Below.setCell ?_ (by first | omega | (simp; done) | (simp; omega)) _) | (with_reducible refine Below.drew ?_) | (with_reducible refine below_drewN ?_ _)))⟩
    case round =>
      obtain ⟨k, hk, rfl, ht, hB⟩ := hrel
      by_cases hlt : k < n
      · obtain ⟨b1, o1, z1, rfl, l1, h1, c1⟩ := HR.out.int hlt
        obtain ⟨b2, o2, z2, rfl, l2, h2, c2⟩ := HS.out.int hlt
        have c1 := cell_later hB c1
        have c2 := cell_later hB c2
        have p0 : (0 : Int) ≤ (k : Int) := by omega
        have p1 : (k : Int) < (n : Int) := by omega
        by_cases he : z1 = z2
        · subst he
          have ht' : Hid (xs.take (k + 1) = ys.take (k + 1)) := by show _ = _; rw [List.take_add_one, List.take_add_one, h1, h2, ht.out]
          clear h1 h2
          go_wp2_with fail
          go_quiet (fail)
          go_wp2
          go_roundw
          case rel => exact ⟨k + 1, hlt, by go_num, ht', by (repeat' (first | (with_reducible exact Below.refl _ _) | (with_reducible assumption) | (with_reducible refine belowThru ?_ (by assumption)) | (with_reducible refine belowAlloc ?_) | (with_reducible refine Below.setCell ?_ (by first | omega | (simp; done) | (simp; omega)) _) | (with_reducible refine Below.drew ?_) | (with_reducible refine below_drewN ?_ _)))⟩
          case measure => simp [intOf]; omega
        · have hd : (z1 != z2) = true := by simpa using he
          have hz : decide (xs = ys) = false := decide_eq_false (fun e => he (by rw [e, h2] at h1; exact (Option.some.inj h1).symm))
          clear h1 h2 he
          go_wp2_with fail
          go_quiet (fail)
          go_wp2
          go_ret
          exact ⟨by first | rfl | (rw [hz]; rfl), by (repeat' (first | (with_reducible exact Below.refl _ _) | (with_reducible assumption) | (with_reducible refine belowThru ?_ (by assumption)) | (with_reducible refine belowAlloc ?_) | (with_reducible refine Below.setCell ?_ (by first | omega | (simp; done) | (simp; omega)) _) | (with_reducible refine Below.drew ?_) | (with_reducible refine below_drewN ?_ _)))⟩
      · have hz : decide (xs = ys) = true := decide_eq_true (by
          have h := ht.out
          rwa [List.take_of_length_le (by rw [HX.out]; omega), List.take_of_length_le (by rw [HY.out]; omega)] at h)
        go_wp2
        go_ret
        exact ⟨by first | rfl | (rw [hz]; rfl), by (repeat' (first | (with_reducible exact Below.refl _ _) | (with_reducible assumption) | (with_reducible refine belowThru ?_ (by assumption)) | (with_reducible refine belowAlloc ?_) | (with_reducible refine Below.setCell ?_ (by first | omega | (simp; done) | (simp; omega)) _) | (with_reducible refine Below.drew ?_) | (with_reducible refine below_drewN ?_ _)))⟩
  · have hd : ((n : Int) != (m : Int)) = true := by simp; omega
    rw [decide_eq_false (fun e : xs = ys => hl (by rw [← hx, ← hy, e]))]
    clear hR hS hx hy
    go_enter Try.func23, Try.ntmps23
    go_wp2
    go_ret
    exact ⟨rfl, by (repeat' (first | (with_reducible exact Below.refl _ _) | (with_reducible assumption) | (with_reducible refine belowThru ?_ (by assumption)) | (with_reducible refine belowAlloc ?_) | (with_reducible refine Below.setCell ?_ (by first | omega | (simp; done) | (simp; omega)) _) | (with_reducible refine Below.drew ?_) | (with_reducible refine below_drewN ?_ _)))⟩

set_option maxHeartbeats 2000000 in
theorem same_yes (W H : Int) (a b : Option Addr) (n m c d : Nat) (zs : List Int) (hn : n ≤ maxLen) (w : World) (hR : Row w a n (iv zs)) (hS : Row w b m (iv zs)) :
    Calls Try.prog 35 #[.agg #[.int .i64 W, .int .i64 H, .slice a n c], .agg #[.int .i64 W, .int .i64 H, .slice b m d]] w fun e w' => e = .returned (.bool true) ∧ Below w.heap.size w w' := by
  have HS : Hid (∀ w, Row w a n (iv zs) → Row w b m (iv zs) → Calls Try.prog 23 #[.slice a n c, .slice b m d] w fun e w' => e = .returned (.bool true) ∧ Below w.heap.size w w') := fun w hR hS => by
    have := sameInts_any a b n m c d zs zs hn w hR hS
    rw [decide_eq_true rfl] at this; exact this
  have H1 := Lib.hid hR; have H2 := Lib.hid hS
  clear hR hS hn
  go_enter Try.func35, Try.ntmps35
  go_wp2_with (go_at_call 23; (with_reducible refine (HS.out _ (H1.out.later (by (repeat' (first | (with_reducible exact Below.refl _ _) | (with_reducible assumption) | (with_reducible refine belowThru ?_ (by assumption)) | (with_reducible refine belowAlloc ?_) | (with_reducible refine Below.setCell ?_ (by first | omega | (simp; done) | (simp; omega)) _) | (with_reducible refine Below.drew ?_) | (with_reducible refine below_drewN ?_ _))))) (H2.out.later (by (repeat' (first | (with_reducible exact Below.refl _ _) | (with_reducible assumption) | (with_reducible refine belowThru ?_ (by assumption)) | (with_reducible refine belowAlloc ?_) | (with_reducible refine Below.setCell ?_ (by first | omega | (simp; done) | (simp; omega)) _) | (with_reducible refine Below.drew ?_) | (with_reducible refine below_drewN ?_ _)))))).mono ?_); rintro e w1 ⟨rfl, hb⟩)
  go_ret
  exact ⟨rfl, by (repeat' (first | (with_reducible exact Below.refl _ _) | (with_reducible assumption) | (with_reducible refine belowThru ?_ (by assumption)) | (with_reducible refine belowAlloc ?_) | (with_reducible refine Below.setCell ?_ (by first | omega | (simp; done) | (simp; omega)) _) | (with_reducible refine Below.drew ?_) | (with_reducible refine below_drewN ?_ _)))⟩

/-! ### An image in new memory -/
theorem info_tin : (Try.prog.info? 3).map (fun i => (i.zero, i.size, i.bytes)) = some (some (.int .i64 0), 1, 8) := by kernel_rfl
theorem oneCell_iv (zs : List Int) : ∀ u ∈ iv zs, u.oneCell' = true := by
  intro u hu
  obtain ⟨z, -, rfl⟩ := List.mem_map.1 hu
  rfl
theorem Row.set {w : World} {a : Option Addr} {n : Nat} {vs : List Value} (h : Row w a n vs) {p : Addr} {v : Value} (hp : ∀ ad, a = some ad → p.block ≠ ad.block) : Row (w.setCell p v) a n vs :=
  ⟨h.1, fun hn => by
    obtain ⟨b, off, ha, hlt, hc⟩ := h.2 hn
    have hne := hp _ ha
    exact ⟨b, off, ha, by simpa [World.setCell] using hlt, fun j hj => (World.cell?_of_block (w := w) (Below.heap_setCell w p v b (fun e => hne e.symm))).trans (hc j hj)⟩⟩
theorem add_pl (b off i : Nat) : (⟨b, off, none⟩ : Addr).add i = ⟨b, off + i, none⟩ := by
  unfold Addr.add; split <;> simp_all
/-- A slice of numbers in a block of numbers that is known. -/
def Own (w : World) (a : Option Addr) (n : Nat) (zs : List Int) : Prop :=
  zs.length = n ∧ ((a = none ∧ n = 0) ∨ ∃ (g : Nat) (cur : Array Value), a = some ⟨g, 0, none⟩ ∧ Blk w g cur 3 ∧ ∀ j, j < n → cur[j]? = (iv zs)[j]?)
theorem Own.row {w : World} {a : Option Addr} {n : Nat} {zs : List Int} (h : Own w a n zs) : Row w a n (iv zs) := by
  obtain ⟨hl, h⟩ := h
  refine ⟨by rw [iv_length]; exact hl, fun hn => ?_⟩
  rcases h with ⟨-, rfl⟩ | ⟨g, cur, rfl, k, hc⟩
  · exact absurd hn (by omega)
  · exact ⟨g, 0, rfl, k.lt, fun j hj => by rw [Nat.zero_add, k.cells, hc j hj]⟩
theorem Own.later {w w' : World} (hb : Below w.heap.size w w') {a : Option Addr} {n : Nat} {zs : List Int} (h : Own w a n zs) : Own w' a n zs :=
  ⟨h.1, h.2.imp id (fun ⟨g, cur, e, k, hc⟩ => ⟨g, cur, e, Blk.later hb k, hc⟩)⟩
theorem Own.drew {w : World} {a : Option Addr} {n : Nat} {zs : List Int} (h : Own w a n zs) : Own w.drew a n zs := h
theorem Own.alloc {w : World} {o : Obj} {a : Option Addr} {n : Nat} {zs : List Int} (h : Own w a n zs) : Own (w.alloc o) a n zs :=
  ⟨h.1, h.2.imp id (fun ⟨g, cur, e, k, hc⟩ => ⟨g, cur, e, k.alloc, hc⟩)⟩
theorem Own.set {w : World} {a : Option Addr} {n : Nat} {zs : List Int} (h : Own w a n zs) {b i : Nat} {c : Array Value} {t : TypeId} (k : Blk w b c t) (ht : t ≠ 3) (v : Value) : Own (w.setCell ⟨b, i, none⟩ v) a n zs :=
  ⟨h.1, h.2.imp id (fun ⟨g, cur, e, kg, hc⟩ => ⟨g, cur, e, Blk.other kg (fun e2 => by
    have e3 : g = b := e2
    subst e3
    have k1 : w.heap[g]? = some (.cells cur 3 (0, 0)) := kg
    have k2 : w.heap[g]? = some (.cells c t (0, 0)) := k
    rw [k1] at k2
    cases k2
    exact ht rfl), hc⟩)⟩
theorem Own.set3 {w : World} {a : Option Addr} {n : Nat} {zs : List Int} (h : Own w a n zs) {b : Nat} {c : Array Value} {t : TypeId} (k : Blk w b c t) (ht : t ≠ 3) (x y z : Value) : Own (((w.setCell ⟨b, 0, none⟩ x).setCell ⟨b, 1, none⟩ y).setCell ⟨b, 2, none⟩ z) a n zs :=
  ((h.set k ht x).set (Blk.set k) ht y).set (Blk.set (Blk.set k)) ht z
end Go.Proofs.Ytghmjdmiaajbnaa
/-
  Layer 2: an image whose values are changed.
-/
namespace Go.Proofs.Ytghmjdmiaajbnaa
open Go.RowKit
set_option linter.unusedVariables false
set_option linter.unusedSimpArgs false

theorem Blk.but {w w' : World} {b : Nat} {c : Array Value} {t : TypeId} {row : Option Nat} (hg : w.grownBy w' row) (hne : ∀ g, row = some g → b ≠ g) (h : Blk w b c t) : Blk w' b c t :=
  (hg.block b h.lt (fun e => hne b e.symm rfl)).trans h
theorem Blk.ne {w : World} {b g : Nat} {c c' : Array Value} {t t' : TypeId} (h : Blk w b c t) (k : Blk w g c' t') (hne : t ≠ t') : b ≠ g := by
  rintro rfl
  have : w.heap[b]? = some (.cells c t (0, 0)) := h
  have k' : w.heap[b]? = some (.cells c' t' (0, 0)) := k
  rw [this] at k'
  cases k'
  exact hne rfl
/-- Only that block may have changed. -/
theorem grownBy_set {w wr : World} {g : Nat} (h : w.grownBy wr (some g)) (i : Nat) (v : Value) : w.grownBy (wr.setCell ⟨g, i, none⟩ v) (some g) :=
  ⟨h.os, h.tape, h.output, by have := h.size; simpa [World.setCell] using this, fun k hk hne => (Below.heap_setCell wr ⟨g, i, none⟩ v k (fun e => hne (by rw [e]))).trans (h.block k hk hne)⟩
end Go.Proofs.Ytghmjdmiaajbnaa
/-
  Layer 2: what a call has made anew.
-/
namespace Go.Proofs.Ytghmjdmiaajbnaa
open Go.RowKit
set_option linter.unusedVariables false
set_option linter.unusedSimpArgs false

theorem New.row {B : Nat} {w : World} {a : Option Addr} {n : Nat} {zs : List Int} (h : New B w a n zs) : Row w a n (iv zs) := by
  obtain ⟨hl, h⟩ := h
  rcases h with ⟨rfl, rfl⟩ | ⟨b, rfl, -, k⟩
  · obtain rfl : zs = [] := List.eq_nil_of_length_eq_zero hl
    exact Row.nil _ _
  · subst hl; exact Row.of_blk k
theorem New.later {B : Nat} {w w' : World} (hb : Below w.heap.size w w') {a : Option Addr} {n : Nat} {zs : List Int} (h : New B w a n zs) : New B w' a n zs :=
  ⟨h.1, h.2.imp id (fun ⟨b, e, l, k⟩ => ⟨b, e, l, Blk.later hb k⟩)⟩
theorem New.mono {B B' : Nat} {w : World} {a : Option Addr} {n : Nat} {zs : List Int} (hB : B' ≤ B) (h : New B w a n zs) : New B' w a n zs :=
  ⟨h.1, h.2.imp id (fun ⟨b, e, l, k⟩ => ⟨b, e, Nat.le_trans hB l, k⟩)⟩
theorem New.set {B : Nat} {w : World} {a : Option Addr} {n : Nat} {zs : List Int} (h : New B w a n zs) {b i : Nat} {c : Array Value} {t : TypeId} (k : Blk w b c t) (ht : t ≠ 3) (v : Value) : New B (w.setCell ⟨b, i, none⟩ v) a n zs :=
  ⟨h.1, h.2.imp id (fun ⟨g, e, l, kg⟩ => ⟨g, e, l, Blk.other kg (Blk.ne kg k (fun e => ht e.symm))⟩)⟩
theorem New.set3 {B : Nat} {w : World} {a : Option Addr} {n : Nat} {zs : List Int} (h : New B w a n zs) {b : Nat} {c : Array Value} {t : TypeId} (k : Blk w b c t) (ht : t ≠ 3) (x y z : Value) : New B (((w.setCell ⟨b, 0, none⟩ x).setCell ⟨b, 1, none⟩ y).setCell ⟨b, 2, none⟩ z) a n zs :=
  ((h.set k ht x).set (Blk.set k) ht y).set (Blk.set (Blk.set k)) ht z
end Go.Proofs.Ytghmjdmiaajbnaa
/-
  Memory that append has made.
-/
namespace Go.Proofs.Ytghmjdmiaajbnaa
open Go.RowKit
set_option linter.unusedVariables false
set_option linter.unusedSimpArgs false

theorem ownsRow_row {w : World} {base : Nat} {v : Value} {zs : List Int} (h : w.ownsRow base 3 1 v zs.length (iv zs)) : ∃ a c, v = .slice a zs.length c ∧ Row w a zs.length (iv zs) := by
  rcases h.2 with ⟨rfl, h0⟩ | ⟨g, cap, cur, rfl, hb, hh, hnc, _, hcs, ht⟩
  · exact ⟨none, 0, by rw [h0], ⟨iv_length zs, fun hn => absurd hn (by omega)⟩⟩
  · refine ⟨_, _, rfl, ⟨iv_length zs, fun hn => ⟨g, 0, rfl, lt_of_block hh, fun j hj => ?_⟩⟩⟩
    have e : w.cell? ⟨g, 0 + j, none⟩ = cur[j]? := by simp [World.cell?, hh]
    rw [e, ← ht, Nat.mul_one, List.getElem?_take_of_lt hj, Array.getElem?_toList]
end Go.Proofs.Ytghmjdmiaajbnaa
/-
  Layer 2: sums: the document's own, and all answers of the code.
-/
namespace Go.Proofs.Ytghmjdmiaajbnaa
open Go.RowKit
set_option linter.unusedVariables false
set_option linter.unusedSimpArgs false

/-- A list of numbers and an error. -/
def RetL (zs : List Int) (er : Int) (w : World) (e : Ending) (w' : World) : Prop :=
  ∃ (v : Option Addr) (c : Nat), e = .returned (.tuple #[.slice v zs.length c, .int .i64 er]) ∧ Row w' v zs.length (iv zs) ∧ Below w.heap.size w w'
theorem retL_blk {w w' : World} {zs : List Int} {er : Int} {g N : Nat} (hN : zs.length = N) (hk : Blk w' g (ints zs) 3) (h : Below w.heap.size w w') : RetL zs er w (.returned (.tuple #[.slice (some ⟨g, 0, none⟩) N N, .int .i64 er])) w' := by
  subst hN; exact ⟨_, _, rfl, Row.of_blk hk, h⟩
theorem box_bd31 {Wn : Nat} {zs : List Int} (h : ∀ z ∈ zs, okV z) (x0 y0 x1 y1 : Nat) (hx : x1 ≤ 16) (hy : y1 ≤ 16) : -549755813888 ≤ boxN Wn zs x0 y0 x1 y1 ∧ boxN Wn zs x0 y0 x1 y1 ≤ 549755813888 := by
  have hv : ∀ z ∈ zs, -2147483648 ≤ z ∧ z ≤ 2147483648 := fun z hz => by have := h z hz; unfold okV at this; exact this
  have h1 := box_bd (W := Wn) (by decide) hv x0 y0 x1 y1
  have h2 : (y1 : Int) * ((x1 : Int) * 2147483648) ≤ 16 * (16 * 2147483648) := Int.mul_le_mul (by omega) (by omega) (by omega) (by omega)
  omega
end Go.Proofs.Ytghmjdmiaajbnaa
