/-
  The texts that the laws of this seat share, merged: part 8.
-/
import Derived.BigQuiet
import Derived.Deep.CutRange
import Derived.Deep.DeepCutAuto
import Derived.Deep.Draws
import Derived.Deep.OwnRows
import Derived.Deep.QuietTactic
import Derived.Deep.RegionHeld3
import Derived.Laws.AppendOwn
import Derived.Lib.Hide
import Derived.LoopIn
import Derived.LoopNIn
import Derived.Maps.AppendAt
import Derived.OneCell
import Derived.Orders
import Derived.OwnWalkIn
import Derived.RangeFuncBound
import Derived.RangeFuncCalls
import Derived.RangeFuncLeaves
import Derived.RangeFuncNested
import Derived.Shelf.Abstract
import Derived.Shelf.AbstractIn
import Derived.Shelf.RegionOpen
import Derived.StillTailTactics
import Derived.TacticsInMore
import Derived.Test.YtghmjdmiaajbnaaProg
import Derived.WalkKit
import Derived.WalkSmall
import Derived.WalkSpells
import Derived.Test.YtghmjdmiaajbnaaM1
import Derived.Test.YtghmjdmiaajbnaaM2
import Derived.Test.YtghmjdmiaajbnaaM3
import Derived.Test.YtghmjdmiaajbnaaM4
import Derived.Test.YtghmjdmiaajbnaaM7
/-
  Layer 2: the sum of a rectangle, by the code; sums of rows and columns, all answers.
-/
namespace Go.Proofs.Ytghmjdmiaajbnaa
open Go.RowKit Go.Shelf
set_option linter.unusedVariables false
set_option linter.unusedSimpArgs false

attribute [local go_sem] Oper.semAt_some

set_option maxHeartbeats 1000000 in
theorem ordered_any (p q r s : Int) (w : World) : Calls Try.prog 93 #[.int .i64 p, .int .i64 q, .int .i64 r, .int .i64 s] w fun e w' => e = .returned (.bool (decide (p ≤ q ∧ q ≤ r ∧ r ≤ s))) ∧ w = w' := by
  by_cases h1 : p ≤ q
  · have d1 : decide (p ≤ q) = true := decide_eq_true h1
    by_cases h2 : q ≤ r
    · have d2 : decide (q ≤ r) = true := decide_eq_true h2
      by_cases h3 : r ≤ s
      · have d3 : decide (r ≤ s) = true := decide_eq_true h3
        rw [decide_eq_true (show p ≤ q ∧ q ≤ r ∧ r ≤ s from ⟨h1, h2, h3⟩)]
        clear h1 h2 h3
        go_enter Try.func93, Try.ntmps93
        go_wp2
        go_ret
        exact ⟨rfl, rfl⟩
      · have d3 : decide (r ≤ s) = false := decide_eq_false h3
        rw [decide_eq_false (show ¬ (p ≤ q ∧ q ≤ r ∧ r ≤ s) from fun h => h3 h.2.2)]
        clear h1 h2 h3
        go_enter Try.func93, Try.ntmps93
        go_wp2
        go_ret
        exact ⟨rfl, rfl⟩
    · have d2 : decide (q ≤ r) = false := decide_eq_false h2
      rw [decide_eq_false (show ¬ (p ≤ q ∧ q ≤ r ∧ r ≤ s) from fun h => h2 h.2.1)]
      clear h1 h2
      go_enter Try.func93, Try.ntmps93
      go_wp2
      go_ret
      exact ⟨rfl, rfl⟩
  · have d1 : decide (p ≤ q) = false := decide_eq_false h1
    rw [decide_eq_false (show ¬ (p ≤ q ∧ q ≤ r ∧ r ≤ s) from fun h => h1 h.1)]
    clear h1
    go_enter Try.func93, Try.ntmps93
    go_wp2
    go_ret
    exact ⟨rfl, rfl⟩

theorem alloc2s (w : World) (c0 : Array Value) (t0 : TypeId) (c1 : Array Value) (t1 : TypeId) :
    ∃ W0, (w.alloc (.cells c0 t0)).alloc (.cells c1 t1) = W0 ∧ Blk W0 w.heap.size c0 t0 ∧ Blk W0 (w.heap.size + 1) c1 t1 ∧ Below w.heap.size w W0 ∧ W0.heap.size = w.heap.size + 1 + 1 :=
  ⟨_, rfl, Blk.alloc (Blk.new rfl), Blk.new (by simp), by (repeat' (first | (with_reducible exact Below.refl _ _) | (with_reducible assumption) | (with_reducible refine belowThru ?_ (by assumption)) | (with_reducible refine belowAlloc ?_) | (with_reducible refine Below.setCell ?_ (by first | omega | (simp; done) | (simp; omega)) _) | (with_reducible refine Below.drew ?_) | (with_reducible refine below_drewN ?_ _))), by simp⟩
/-- The sum of the values of some pixels that lie in a set of places. -/
def pickP {N : Nat} {zs : List Int} (B : Nat → Bool) (pre : List (Pel N (ValR zs))) : Int := (pre.map fun x => if B x.1.1 then x.1.2 else 0).foldl (· + ·) 0
theorem pickP_snoc {N : Nat} {zs : List Int} (B : Nat → Bool) (pre : List (Pel N (ValR zs))) (x : Pel N (ValR zs)) : pickP B (pre ++ [x]) = pickP B pre + if B x.1.1 then x.1.2 else 0 := by
  unfold pickP; rw [List.map_append, List.foldl_append]; rfl
theorem pickP_bd {N : Nat} {zs : List Int} (B : Nat → Bool) (pre : List (Pel N (ValR zs))) : -((pre.length : Int) * 2147483648) ≤ pickP B pre ∧ pickP B pre ≤ (pre.length : Int) * 2147483648 := by
  rw [← List.reverse_reverse pre]
  generalize pre.reverse = l
  induction l with
  | nil => simp [pickP]
  | cons x l ih =>
    rw [List.reverse_cons, pickP_snoc, List.length_append, List.length_singleton]
    have hv := x.2.2.2
    unfold okV at hv
    split <;> omega
theorem pickP_all {N : Nat} {zs : List Int} (B : Nat → Bool) {xs : List (Pel N (ValR zs))} (h : PixAll N xs) : pickP B xs = sumN (fun i => if B i then zs[i]?.getD 0 else 0) N := by
  rw [← fold_range, ← (show xs.map (fun x => x.1.1) = List.range N from h), List.map_map]
  unfold pickP
  congr 1
  refine List.map_congr_left fun x _ => ?_
  show _ = if B x.1.1 then zs[x.1.1]?.getD 0 else 0
  rw [x.2.2.1]; rfl
/-- The pixel lies in the rectangle. -/
def inB (W x0 y0 x1 y1 : Int) (k : Nat) : Bool := decide ((x0 ≤ (k : Int) % W ∧ (k : Int) % W < x1) ∧ y0 ≤ (k : Int) / W ∧ (k : Int) / W < y1)

set_option maxRecDepth 100000 in
set_option maxHeartbeats 8000000 in
theorem box_in (n : Nat) (hn : 3 ≤ n) (W H x0 y0 x1 y1 : Int) (bb off m c : Nat) (zs : List Int) (hI : okI W H zs) (hm : zs.length = m) (hx : 0 ≤ x0 ∧ x0 ≤ x1 ∧ x1 ≤ W) (hy : 0 ≤ y0 ∧ y0 ≤ y1 ∧ y1 ≤ H)
    (w : World) (hbb : bb < w.heap.size) (hR : ∀ j, j < m → ∃ z, ValR zs j z ∧ w.cell? ⟨bb, off + j, none⟩ = some (.int .i64 z))
    (HK : Hid (∀ w1, Below w.heap.size w w1 → Calls Try.prog 51 #[.agg #[.int .i64 W, .int .i64 H, .slice (some ⟨bb, off, none⟩) m c]] w1 fun e w' => e = .returned (.int .i64 0) ∧ Below w1.heap.size w1 w')) :
    CallsIn Fence.wide n Try.prog 48 #[.agg #[.int .i64 W, .int .i64 H, .slice (some ⟨bb, off, none⟩) m c], .int .i64 x0, .int .i64 y0, .int .i64 x1, .int .i64 y1] w fun e w' => e = .returned (.tuple #[.int .i64 (sumN (fun i => if inB W x0 y0 x1 y1 i then zs[i]?.getD 0 else 0) m), .int .i64 0]) ∧ Below w.heap.size w w' := by
  obtain ⟨⟨⟨w0, w1⟩, h0, h1⟩, hL, -⟩ := hI
  have hmul := okS_mul ⟨w0, w1⟩ ⟨h0, h1⟩
  have m1 : 1 ≤ m := by omega
  have m2 : m ≤ 256 := by omega
  have HR := Lib.hid hR
  have HO1 : Hid (∀ w, Calls Try.prog 93 #[.int .i64 0, .int .i64 x0, .int .i64 x1, .int .i64 W] w fun e w' => e = .returned (.bool true) ∧ w = w') := fun w => by have := ordered_any 0 x0 x1 W w; rwa [decide_eq_true hx] at this
  have HO2 : Hid (∀ w, Calls Try.prog 93 #[.int .i64 0, .int .i64 y0, .int .i64 y1, .int .i64 H] w fun e w' => e = .returned (.bool true) ∧ w = w') := fun w => by have := ordered_any 0 y0 y1 H w; rwa [decide_eq_true hy] at this
  clear hR hL hmul hm hx hy
  refine callsIn_of_wp_marks Try.func48 rfl trivial ?_ rfl
  simp only [Try.ntmps48, List.size_toArray, List.length_cons, List.length_nil, Nat.reduceAdd, Nat.reduceSub, Array.replicate_succ, Array.replicate_zero, List.push_toArray, List.append_toArray, List.nil_append, List.cons_append]
  have n1 : 1 ≤ n := by omega
  have n2 : 1 ≤ n - 1 - 1 := by omega
  have hmx : Try.prog.follows .mixedOrders = true := by kernel_rfl
  gi_wp2_with (first
    | ((try (refine ⟨trivial, ?_⟩)); gi_at_call 51; refine (callsIn_wide.2 (HK.out _ (by (repeat' (first | (with_reducible exact Below.refl _ _) | (with_reducible assumption) | (with_reducible refine belowThru ?_ (by assumption)) | (with_reducible refine belowAlloc ?_) | (with_reducible refine Below.setCell ?_ (by first | omega | (simp; done) | (simp; omega)) _) | (with_reducible refine Below.drew ?_) | (with_reducible refine below_drewN ?_ _)))))).mono ?_; rintro e wA ⟨rfl, hbA⟩; have km : Blk wA w.heap.size #[.int .i64 W, .int .i64 H, .slice (some ⟨bb, off, none⟩) m c] 24 := Blk.later hbA (Blk.alloc (Blk.alloc (Blk.alloc (Blk.alloc (Blk.new rfl))))); have kx0 : Blk wA (w.heap.size + 1) #[.int .i64 x0] 3 := Blk.later hbA (Blk.alloc (Blk.alloc (Blk.alloc (Blk.new (by simp))))); have ky0 : Blk wA (w.heap.size + 1 + 1) #[.int .i64 y0] 3 := Blk.later hbA (Blk.alloc (Blk.alloc (Blk.new (by simp)))); have kx1 : Blk wA (w.heap.size + 1 + 1 + 1) #[.int .i64 x1] 3 := Blk.later hbA (Blk.alloc (Blk.new (by simp))); have ky1 : Blk wA (w.heap.size + 1 + 1 + 1 + 1) #[.int .i64 y1] 3 := Blk.later hbA (Blk.new (by simp)); obtain ⟨am, bm⟩ := km.read; obtain ⟨ax0, bx0⟩ := kx0.read; obtain ⟨ay0, by0⟩ := ky0.read; obtain ⟨ax1, bx1⟩ := kx1.read; obtain ⟨ay1, by1⟩ := ky1.read; have zM := km.lt; have zM1 : w.heap.size < wA.heap.size + 1 := Nat.lt_succ_of_lt zM; have zY := ky1.lt; have hBA : Below w.heap.size w wA := (by (repeat' (first | (with_reducible exact Below.refl _ _) | (with_reducible assumption) | (with_reducible refine belowThru ?_ (by assumption)) | (with_reducible refine belowAlloc ?_) | (with_reducible refine Below.setCell ?_ (by first | omega | (simp; done) | (simp; omega)) _) | (with_reducible refine Below.drew ?_) | (with_reducible refine below_drewN ?_ _)))))
    | ((try (refine ⟨trivial, ?_⟩)); gi_at_call 93; (with_reducible refine (callsIn_wide.2 (HO1.out _)).mono ?_); rintro e w' ⟨rfl, rfl⟩)
    | ((try (refine ⟨trivial, ?_⟩)); gi_at_call 93; (with_reducible refine (callsIn_wide.2 (HO2.out _)).mono ?_); rintro e w' ⟨rfl, rfl⟩)
    | ((try (refine ⟨trivial, ?_⟩)); gi_at_call 69; refine (callsIn_wide.2 (pixels_any _ _ _ _ _ _)).mono ?_; rintro e w' ⟨rfl, rfl⟩))
  clear am bm ax0 bx0 ay0 by0 ax1 bx1 ay1 by1
  obtain ⟨W0, hW0, kS, kP, hB9, hsz⟩ := alloc2s wA #[.int .i64 0] 3 #[.int .i64 W, .int .i64 H, .slice (some ⟨bb, off, none⟩) m c] 86
  rw [hW0]
  have hB0 : Below w.heap.size w W0 := hBA.trans (hB9.mono hBA.size)
  have kx0' := Blk.later hB9 kx0; have ky0' := Blk.later hB9 ky0; have kx1' := Blk.later hB9 kx1; have ky1' := Blk.later hB9 ky1
  clear hW0
  have hG0 : PixG (wA.heap.size + 1) bb off m c W H (ValR zs) W0 :=
    ⟨kP.cells 0, kP.cells 1, kP.cells 2, fun j hj => by obtain ⟨z, hz, hc⟩ := HR.out j hj; exact ⟨z, hz, cell_later hB0 hc⟩⟩
  refine wpIn_rangeFunc_ownH rfl n1 (gf := 110) (lb := #[.pointer (some ⟨wA.heap.size + 1, 0, none⟩)]) rfl trivial (enters_of Try.func110 (by kernel_rfl) rfl)
    (pix_stops (n - 1) (wA.heap.size + 1) bb off m c W H (ValR zs) (by omega) w0 (by omega) W0 (by omega) (by omega) hG0)
    (fun hAB hBC hA => hBC (hAB hA))
    (fun W1 l o o' hl ho hc _ hG => PixG.putObj hG ho hc)
    (Below.refl _ _) (fun _ => rfl)
    (fun pre W1 => Blk W1 wA.heap.size #[.int .i64 (pickP (inB W x0 y0 x1 y1) pre)] 3 ∧ (Blk W1 (w.heap.size + 1) #[.int .i64 x0] 3 ∧ Blk W1 (w.heap.size + 1 + 1) #[.int .i64 y0] 3 ∧ Blk W1 (w.heap.size + 1 + 1 + 1) #[.int .i64 x1] 3 ∧ Blk W1 (w.heap.size + 1 + 1 + 1 + 1) #[.int .i64 y1] 3 ∧ Blk W1 (wA.heap.size + 1) #[.int .i64 W, .int .i64 H, .slice (some ⟨bb, off, none⟩) m c] 86) ∧ Below w.heap.size w W1)
    (fun _ _ _ => False)
    (fun s X Y row hs hg hr => by
      obtain ⟨kz, ⟨b0, b1, b2, b3, b4⟩, hb⟩ := hs
      have hr' := fun r e => (hr r e).2
      exact ⟨kz.own hg hr', ⟨b0.own hg hr', b1.own hg hr', b2.own hg hr', b3.own hg hr', b4.own hg hr'⟩, ownFrom_below (β := Unit) (Nat.le_refl _) hB0.size () X Y row hb hg hr⟩)
    (fun _ _ _ _ _ hs _ _ => hs)
    ⟨kS, ⟨kx0', ky0', kx1', ky1', kP⟩, hB0⟩
    (fun x a' W1 => ∃ Bx, Blk W1 Bx #[.int .i64 ((x.1.1 : Int) % W), .int .i64 ((x.1.1 : Int) / W)] 83 ∧ wA.heap.size + 1 < Bx ∧ a' = { tmps := #[.agg #[.int .i64 W, .int .i64 H, .slice (some ⟨bb, off, none⟩) m c], .int .i64 x0, .int .i64 y0, .int .i64 x1, .int .i64 y1, .pointer (some ⟨w.heap.size, 0, none⟩), .pointer (some ⟨w.heap.size + 1, 0, none⟩), .pointer (some ⟨w.heap.size + 1 + 1, 0, none⟩), .pointer (some ⟨w.heap.size + 1 + 1 + 1, 0, none⟩), .pointer (some ⟨w.heap.size + 1 + 1 + 1 + 1, 0, none⟩), .int .i64 0, .int .i64 0, .int .i64 0, .pointer (some ⟨wA.heap.size, 0, none⟩), .pointer (some ⟨Bx, 0, none⟩), .int .i64 x.1.2, .agg #[.int .i64 W, .int .i64 H, .slice (some ⟨bb, off, none⟩) m c], .int .i64 0, .int .i64 0, .bool false, undef, .int .i64 x0, .int .i64 x1, .pointer (some ⟨w.heap.size, 0, none⟩), .int .i64 W, .bool true, .bool false, .bool false, .int .i64 y0, .int .i64 y1, .pointer (some ⟨w.heap.size, 1, none⟩), .int .i64 H, .bool true, .bool false, .bool false, .agg #[.int .i64 W, .int .i64 H, .slice (some ⟨bb, off, none⟩) m c], .func (.func 110) #[] #[.pointer (some ⟨wA.heap.size + 1, 0, none⟩)], .agg #[.int .i64 ((x.1.1 : Int) % W), .int .i64 ((x.1.1 : Int) / W)], .int .i64 x.1.2, undef, undef, undef, undef, undef, undef, undef, undef, undef, undef, undef, undef, undef, undef, undef, undef, undef, undef, undef, undef, undef, undef, undef, undef, undef, undef], defers := [] })
    (fun x a' _ X Y row hs hg hr => by obtain ⟨Bx, h1, h2, h3⟩ := hs; exact ⟨Bx, h1.own hg (fun r e => (hr r e).2), h2, h3⟩)
    ?assign ?body ?done ?stop
  case assign =>
    rintro l pre x W1 K ⟨kz, ⟨b0, b1, b2, b3, b4⟩, hb⟩ hK
    have hsz1 := b4.lt
    simp only [pxEnc]
    gi_wp2
    exact hK _ _ ((KeepsOthers.alloc _ _).from _) (fun hG => hG.alloc _) ⟨kz.alloc, ⟨b0.alloc, b1.alloc, b2.alloc, b3.alloc, b4.alloc⟩, hb.alloc hb.size _⟩ ⟨W1.heap.size, Blk.new rfl, by omega, rfl⟩
  case body =>
    rintro l pre x a' W1 hl _ ⟨k0, ⟨k1, k2, k3, k4, k5⟩, hB⟩ ⟨Bx, k6, hx, rfl⟩ hlt
    obtain ⟨⟨k, z⟩, hk, ht⟩ := x
    dsimp only at hk k6 ⊢
    have hbd := pickP_bd (inB W x0 y0 x1 y1) pre
    obtain ⟨px, hpx⟩ : ∃ px, (k : Int) % W = px := ⟨_, rfl⟩
    obtain ⟨py, hpy⟩ : ∃ py, (k : Int) / W = py := ⟨_, rfl⟩
    obtain ⟨u, hue⟩ : ∃ u, pickP (inB W x0 y0 x1 y1) pre = u := ⟨_, rfl⟩
    rw [hpx, hpy] at k6 ⊢
    rw [hue] at hbd k0
    have hzb := ht.2
    unfold okV at hzb
    have q0 : -549755813888 ≤ u := by omega
    have q1 : u ≤ 549755813888 := by omega
    obtain ⟨q2, q3⟩ := hzb
    clear hbd
    obtain ⟨a0, b0⟩ := k0.read; obtain ⟨a1, b1⟩ := k1.read; obtain ⟨a2, b2⟩ := k2.read; obtain ⟨a3, b3⟩ := k3.read; obtain ⟨a4, b4⟩ := k4.read; obtain ⟨a6, b6⟩ := k6.read
    have zs0 := k0.lt
    have zY1 := zY
    have hbA := hBA.size
    clear hG0 kS kP km kx0 ky0 kx1 ky1 kx0' ky0' kx1' ky1' hB9
    by_cases h : (x0 ≤ px ∧ px < x1) ∧ y0 ≤ py ∧ py < y1
    · have q9 := h
      have d1 : decide (x0 ≤ px) = true := decide_eq_true h.1.1
      have d2 : decide (px < x1) = true := decide_eq_true h.1.2
      have d3 : decide (y0 ≤ py) = true := decide_eq_true h.2.1
      have d4 : decide (py < y1) = true := decide_eq_true h.2.2
      have hu' : pickP (inB W x0 y0 x1 y1) (pre ++ [⟨(k, z), hk, ht⟩]) = u + z := by rw [pickP_snoc, hue]; show u + (if inB W x0 y0 x1 y1 k = true then z else 0) = _; rw [if_pos (by unfold inB; rw [hpx, hpy]; exact decide_eq_true h)]
      have HU := Lib.hid hu'
      clear h hu' hue hpx hpy
      gi_wp2
      refine ⟨(KeepsOthers.setCell _ _ _).from _, fun h => h.set (by omega) (by omega), ?_, ⟨Blk.other k1 (by simp; omega), Blk.other k2 (by simp; omega), Blk.other k3 (by simp; omega), Blk.other k4 (by simp; omega), Blk.other k5 (by simp)⟩, by (repeat' (first | (with_reducible exact Below.refl _ _) | (with_reducible assumption) | (with_reducible refine belowThru ?_ (by assumption)) | (with_reducible refine belowAlloc ?_) | (with_reducible refine Below.setCell ?_ (by first | omega | (simp; done) | (simp; omega)) _) | (with_reducible refine Below.drew ?_) | (with_reducible refine below_drewN ?_ _)))⟩
      rw [HU.out]
      exact Blk.set k0
    · have hu' : pickP (inB W x0 y0 x1 y1) (pre ++ [⟨(k, z), hk, ht⟩]) = u := by rw [pickP_snoc, hue]; show u + (if inB W x0 y0 x1 y1 k = true then z else 0) = _; rw [if_neg (by unfold inB; rw [hpx, hpy]; simpa using h), Int.add_zero]
      have HU := Lib.hid hu'
      have HN := Lib.hid h
      clear h hu' hue hpx hpy
      by_cases h1 : x0 ≤ px
      · have d1 : decide (x0 ≤ px) = true := decide_eq_true h1
        by_cases h2 : px < x1
        · have d2 : decide (px < x1) = true := decide_eq_true h2
          by_cases h3 : y0 ≤ py
          · have d3 : decide (y0 ≤ py) = true := decide_eq_true h3
            by_cases h4 : py < y1
            · exact absurd ⟨⟨h1, h2⟩, h3, h4⟩ HN.out
            · have d4 : decide (py < y1) = false := decide_eq_false h4
              clear h1 h2 h3 h4 HN
              gi_wp2
              refine ⟨KeepsFrom.refl _ _, fun h => h, ?_, ⟨k1, k2, k3, k4, k5⟩, hB⟩
              rw [HU.out]
              exact k0
          · have d3 : decide (y0 ≤ py) = false := decide_eq_false h3
            clear h1 h2 h3 HN
            gi_wp2
            refine ⟨KeepsFrom.refl _ _, fun h => h, ?_, ⟨k1, k2, k3, k4, k5⟩, hB⟩
            rw [HU.out]
            exact k0
        · have d2 : decide (px < x1) = false := decide_eq_false h2
          clear h1 h2 HN
          gi_wp2
          refine ⟨KeepsFrom.refl _ _, fun h => h, ?_, ⟨k1, k2, k3, k4, k5⟩, hB⟩
          rw [HU.out]
          exact k0
      · have d1 : decide (x0 ≤ px) = false := decide_eq_false h1
        clear h1 HN
        gi_wp2
        refine ⟨KeepsFrom.refl _ _, fun h => h, ?_, ⟨k1, k2, k3, k4, k5⟩, hB⟩
        rw [HU.out]
        exact k0
  case done =>
    rintro D xs W1 hD hall ⟨kz, ⟨b0, b1, b2, b3, b4⟩, hb⟩ hK
    rw [pickP_all _ hall] at kz
    obtain ⟨e1, f1⟩ := kz.read
    gi_wp2
    have hAz := hBA.size
    refine ⟨by simp, .inl ⟨_, _, rfl, run_takeDeferred hK, ?_⟩⟩
    refine ⟨.tuple #[.int .i64 (sumN (fun i => if inB W x0 y0 x1 y1 i then zs[i]?.getD 0 else 0) m), .int .i64 0], ?_, rfl, hb.trans (belowK_b (w := w) (Nat.le_refl _) W1 D _ _ (by omega) hK rfl rfl)⟩
    simp only [results, Try.results48]
    go_simp
  case stop =>
    rintro D c pre W1 _ _ h _
    exact h.elim

end Go.Proofs.Ytghmjdmiaajbnaa
/-
  Layer 2: sums: the document's own, and all answers of the code.
-/
namespace Go.Proofs.Ytghmjdmiaajbnaa
open Go.RowKit
set_option linter.unusedVariables false
set_option linter.unusedSimpArgs false

theorem below_growL {w wr W w3 : World} {v : Value} {n : Nat} {xs : List Value} (hown : wr.ownsRow (w.heap.size + 1) 3 1 v n xs) (hW : Below w.heap.size w W) (hg : W.grownBy w3 v.ownBlock) : Below w.heap.size w w3 :=
  hW.grown hg hW.size (fun k hk => by have := (hown.lt k hk).1; omega)
end Go.Proofs.Ytghmjdmiaajbnaa
/-
  Layer 2: sums: all answers of both sides.
-/
namespace Go.Proofs.Ytghmjdmiaajbnaa
open Go.RowKit Go.Shelf
set_option linter.unusedVariables false
set_option linter.unusedSimpArgs false

theorem sides_nat {W H : Int} {zs : List Int} (hI : okI W H zs) : ∃ Wn Hn : Nat, W = (Wn : Int) ∧ H = (Hn : Int) ∧ Wn ≤ 16 ∧ Hn ≤ 16 ∧ 0 < Wn ∧ 0 < Hn ∧ zs.length = Wn * Hn := by
  have hs := hI.1
  unfold okS at hs
  have hL := hI.2.1
  refine ⟨W.toNat, H.toNat, by omega, by omega, by omega, by omega, by omega, by omega, ?_⟩
  have e : ((W.toNat * H.toNat : Nat) : Int) = W * H := by rw [Int.natCast_mul, Int.toNat_of_nonneg (by omega), Int.toNat_of_nonneg (by omega)]
  omega
end Go.Proofs.Ytghmjdmiaajbnaa
/-
  Layer 2: the statements' own list of a pixel's neighbours.
-/
namespace Go.Proofs.Ytghmjdmiaajbnaa
open Go.RowKit
set_option linter.unusedVariables false
set_option linter.unusedSimpArgs false

/-- The neighbours of a pixel. -/
def nb1 (W : Int) (k : Nat) : List Int := if 0 < (k : Int) % W then [(k : Int) - 1] else []
def nb2 (W : Int) (k : Nat) : List Int := nb1 W k ++ if (k : Int) % W < W - 1 then [(k : Int) + 1] else []
def nb3 (W : Int) (k : Nat) : List Int := nb2 W k ++ if W ≤ (k : Int) then [(k : Int) - W] else []
def nb4 (W H : Int) (k : Nat) : List Int := nb3 W k ++ if (k : Int) < W * (H - 1) then [(k : Int) + W] else []
/-- A list is returned. -/
def RetS (ls : List Int) (w : World) (e : Ending) (w' : World) : Prop := ∃ (v : Option Addr) (d : Nat), e = .returned (.slice v ls.length d) ∧ Row w' v ls.length (iv ls) ∧ Below w.heap.size w w'
theorem nb1_len (W : Int) (k : Nat) : (nb1 W k).length ≤ 1 := by unfold nb1; split <;> simp
theorem nb2_len (W : Int) (k : Nat) : (nb2 W k).length ≤ 2 := by have := nb1_len W k; unfold nb2; rw [List.length_append]; split <;> simp <;> omega
theorem nb3_len (W : Int) (k : Nat) : (nb3 W k).length ≤ 3 := by have := nb2_len W k; unfold nb3; rw [List.length_append]; split <;> simp <;> omega
theorem nb4_len (W H : Int) (k : Nat) : (nb4 W H k).length ≤ 4 := by have := nb3_len W k; unfold nb4; rw [List.length_append]; split <;> simp <;> omega
theorem own_more {w : World} {base : Nat} {v : Value} {L : List Int} {e : Int} (h : w.ownsRow base 3 1 v (L.length + 1) (iv L ++ [.int .i64 e])) : w.ownsRow base 3 1 v (L ++ [e]).length (iv (L ++ [e])) := by
  rw [List.length_append, show iv (L ++ [e]) = iv L ++ [.int .i64 e] by simp [iv]]; exact h
set_option maxRecDepth 100000 in
set_option maxHeartbeats 8000000 in
theorem neighbours_any (W H : Int) (a : Option Addr) (n c k : Nat) (zs : List Int) (hI : okI W H zs) (hk : k < n) (hl : zs.length = n) (w : World) :
    Calls Try.prog 47 #[.agg #[.int .i64 W, .int .i64 H, .slice a n c], .int .i64 (k : Int)] w (RetS (nb4 W H k) w) := by
  have hmul := okS_mul hI.1.1 hI.1.2
  have hL := hI.2.1
  obtain ⟨⟨⟨w0, w1⟩, h0, h1⟩, -, -⟩ := hI
  have n2 : n ≤ 256 := by omega
  obtain ⟨-, s2, -, -, s5, s6⟩ := small_div k W w0 (by omega)
  obtain ⟨px, hpx⟩ : ∃ px, (k : Int) % W = px := ⟨_, rfl⟩
  have hQ0 : 0 ≤ W * (H - 1) ∧ W * (H - 1) ≤ 256 := by rw [Int.mul_sub, Int.mul_one]; have := Int.mul_le_mul (show (1 : Int) ≤ H by omega) (show W ≤ W by omega) (by omega) (by omega); rw [Int.one_mul, Int.mul_comm H W] at this; omega
  obtain ⟨Q, hQ⟩ : ∃ Q, W * (H - 1) = Q := ⟨_, rfl⟩
  have e1 : nb1 W k = if 0 < px then [(k : Int) - 1] else [] := by unfold nb1; rw [hpx]
  have e2 : nb2 W k = nb1 W k ++ if px < W - 1 then [(k : Int) + 1] else [] := by unfold nb2; rw [hpx]
  have e3 : nb3 W k = nb2 W k ++ if W ≤ (k : Int) then [(k : Int) - W] else [] := rfl
  have e4 : nb4 W H k = nb3 W k ++ if (k : Int) < Q then [(k : Int) + W] else [] := by unfold nb4; rw [hQ]
  have l1 := nb1_len W k; have l2 := nb2_len W k; have l3 := nb3_len W k; have l4 := nb4_len W H k
  obtain ⟨N1, hN1⟩ : ∃ N, nb1 W k = N := ⟨_, rfl⟩
  obtain ⟨N2, hN2⟩ : ∃ N, nb2 W k = N := ⟨_, rfl⟩
  obtain ⟨N3, hN3⟩ : ∃ N, nb3 W k = N := ⟨_, rfl⟩
  obtain ⟨N4, hN4⟩ : ∃ N, nb4 W H k = N := ⟨_, rfl⟩
  rw [hN1] at e1 e2 l1; rw [hN2] at e2 e3 l2; rw [hN3] at e3 e4 l3; rw [hN4] at e4 l4 ⊢
  have E1 := Lib.hid e1; have E2 := Lib.hid e2; have E3 := Lib.hid e3; have E4 := Lib.hid e4
  rw [hpx] at s2 s5 s6
  rw [hQ] at hQ0
  obtain ⟨q0, q1⟩ := hQ0
  have k0 : (0 : Int) ≤ (k : Int) := by omega
  have k1 : (k : Int) ≤ 255 := by omega
  obtain ⟨i0, hi, hz0, hz1, hz2⟩ := info_parts info_tin
  clear e1 e2 e3 e4 hN1 hN2 hN3 hN4 hpx hL hmul hl
  go_enter Try.func47, Try.ntmps47
  have kB0 : Blk (w.alloc (.cells #[.int .i64 W, .int .i64 H, .slice a n c] 24)) w.heap.size #[.int .i64 W, .int .i64 H, .slice a n c] 24 := Blk.new rfl
  obtain ⟨aB, bB⟩ := kB0.read
  obtain ⟨X0, hX0⟩ : ∃ X, w.alloc (.cells #[.int .i64 W, .int .i64 H, .slice a n c] 24) = X := ⟨_, rfl⟩
  have hB : Below w.heap.size w X0 := by rw [← hX0]; (repeat' (first | (with_reducible exact Below.refl _ _) | (with_reducible assumption) | (with_reducible refine belowThru ?_ (by assumption)) | (with_reducible refine belowAlloc ?_) | (with_reducible refine Below.setCell ?_ (by first | omega | (simp; done) | (simp; omega)) _) | (with_reducible refine Below.drew ?_) | (with_reducible refine below_drewN ?_ _)))
  have kB : Blk X0 w.heap.size #[.int .i64 W, .int .i64 H, .slice a n c] 24 := by rw [← hX0]; exact kB0
  have hown : X0.ownsRow (w.heap.size + 1) 3 1 (.slice none 0 0) 0 [] := World.ownsRow_nil _ _ _ _
  have HX := Lib.hid hX0
  clear hX0
  have HOW := Lib.hid hown
  have HKB := Lib.hid kB
  have HBB := Lib.hid hB
  clear hown kB hB
  go_upto_region 2 with fail
  go_cut [5, 10] (fun s5 s10 wx => X0.ownsRow (w.heap.size + 1) 3 1 s5 0 [] ∧ s10 = .bool (decide (0 < px)) ∧ wx = X0)
  case first =>
    go_wp2_with fail
    go_meet
    exact ⟨HOW.out, rfl, HX.out⟩
  case rest =>
  obtain ⟨hown, rfl, hwc⟩ := hcut
  obtain rfl : X0 = wc := hwc.symm
  have kB := HKB.out; have hB := HBB.out
  clear HX kB0 HKB HBB HOW aB bB
  obtain ⟨aB, bB⟩ := kB.read
  rename_i s5v
  obtain ⟨a0, c0, rfl⟩ := ownsRow_form hown
  go_upto_if 10 with fail
  have hzs := hB.size
  have HO1 := Lib.hid hown
  go_cut [5] (fun s5 wx => wx.ownsRow (w.heap.size + 1) 3 1 s5 N1.length (iv N1) ∧ Blk wx w.heap.size #[.int .i64 W, .int .i64 H, .slice a n c] 24 ∧ Below w.heap.size w wx)
  case first =>
    by_cases hc : 0 < px
    · have HE : Hid (N1 = ([] : List Int) ++ [(k : Int) - 1]) := by show _ = _; rw [E1.out, if_pos hc]; rfl
      go_wp2_with (at_builtin; refine wpList_append_own _ rfl _ _ 22 rfl (w.heap.size + 1) 3 i0 (.int .i64 0) 1 8 Try.underlying22 hi hz0 hz1 hz2 rfl (by decide) _ _ _ rfl (hown.alloc _) ⟨X0.heap.size, 0, none⟩ 1 1 [.int .i64 ((k : Int) - 1)] rfl rfl (cell_one_new _ _ _) (fun x hx => by simp at hx; subst hx; rfl) (by unfold maxLen; first | omega | (simp; omega)) (by first | omega | (simp; omega)) (by simp; omega) ?_; intro v2 w3 hown2 hgrow3 hnil3)
      have hB' := below_growL hown (belowAlloc hB) hgrow3
      have kq := Blk.but hgrow3 (fun g e => by have := hown.lt g e; omega) (kB.alloc (o := .cells #[.int .i64 ((k : Int) - 1)] 3))
      go_meet
      exact ⟨by rw [HE.out]; first | exact own_more hown2 | exact own_more (L := []) hown2, kq, hB'⟩
    · have HE : Hid (N1 = ([] : List Int)) := by show _ = _; rw [E1.out, if_neg hc]
      go_wp2_with fail
      go_meet
      exact ⟨by rw [HE.out]; exact HO1.out, kB, hB⟩
  case rest =>
  clear aB bB kB hB hown hzs HO1
  obtain ⟨hown, kB, hB⟩ := hcut
  obtain ⟨X1, rfl⟩ : ∃ X, X = wc := ⟨_, rfl⟩
  obtain ⟨a1, c1, rfl⟩ := ownsRow_form hown
  obtain ⟨aB, bB⟩ := kB.read
  go_upto_region 4 with fail
  go_cut [23] (fun s23 wx => s23 = .bool (decide (px < W - 1)) ∧ Below X1.heap.size X1 wx)
  case first =>
    go_quiet (fail)
    go_wp2_with fail
    go_meet
    exact ⟨rfl, by (repeat' (first | (with_reducible exact Below.refl _ _) | (with_reducible assumption) | (with_reducible refine belowThru ?_ (by assumption)) | (with_reducible refine belowAlloc ?_) | (with_reducible refine Below.setCell ?_ (by first | omega | (simp; done) | (simp; omega)) _) | (with_reducible refine Below.drew ?_) | (with_reducible refine below_drewN ?_ _)))⟩
  case rest =>
  obtain ⟨rfl, hb⟩ := hcut
  replace hown := ownsRow_later hb hown
  replace kB := Blk.later hb kB
  replace hB : Below w.heap.size w wc := belowThru hB hb
  clear aB bB hb
  obtain ⟨aB, bB⟩ := kB.read
  obtain ⟨Y1, rfl⟩ : ∃ Y1, Y1 = wc := ⟨_, rfl⟩
  go_upto_if 23 with fail
  have hzs := hB.size
  have HO2 := Lib.hid hown
  go_cut [5] (fun s5 wx => wx.ownsRow (w.heap.size + 1) 3 1 s5 N2.length (iv N2) ∧ Blk wx w.heap.size #[.int .i64 W, .int .i64 H, .slice a n c] 24 ∧ Below w.heap.size w wx)
  case first =>
    by_cases hc : px < W - 1
    · have HE : Hid (N2 = N1 ++ [(k : Int) + 1]) := by show _ = _; rw [E2.out, if_pos hc]
      go_wp2_with (at_builtin; refine wpList_append_own _ rfl _ _ 22 rfl (w.heap.size + 1) 3 i0 (.int .i64 0) 1 8 Try.underlying22 hi hz0 hz1 hz2 rfl (by decide) _ _ _ rfl (hown.alloc _) ⟨Y1.heap.size, 0, none⟩ 1 1 [.int .i64 ((k : Int) + 1)] rfl rfl (cell_one_new _ _ _) (fun x hx => by simp at hx; subst hx; rfl) (by unfold maxLen; first | omega | (simp; omega)) (by first | omega | (simp; omega)) (by simp; omega) ?_; intro v2 w3 hown2 hgrow3 hnil3)
      have hB' := below_growL hown (belowAlloc hB) hgrow3
      have kq := Blk.but hgrow3 (fun g e => by have := hown.lt g e; omega) (kB.alloc (o := .cells #[.int .i64 ((k : Int) + 1)] 3))
      go_meet
      exact ⟨by rw [HE.out]; first | exact own_more hown2 | exact own_more (L := []) hown2, kq, hB'⟩
    · have HE : Hid (N2 = N1) := by show _ = _; rw [E2.out, if_neg hc, List.append_nil]
      go_wp2_with fail
      go_meet
      exact ⟨by rw [HE.out]; exact HO2.out, kB, hB⟩
  case rest =>
  clear aB bB kB hB hown hzs HO2
  obtain ⟨hown, kB, hB⟩ := hcut
  obtain ⟨X2, rfl⟩ : ∃ X, X = wc := ⟨_, rfl⟩
  obtain ⟨a2, c2, rfl⟩ := ownsRow_form hown
  obtain ⟨aB, bB⟩ := kB.read
  go_upto_if 32 with fail
  have hzs := hB.size
  have HO3 := Lib.hid hown
  go_cut [5] (fun s5 wx => wx.ownsRow (w.heap.size + 1) 3 1 s5 N3.length (iv N3) ∧ Blk wx w.heap.size #[.int .i64 W, .int .i64 H, .slice a n c] 24 ∧ Below w.heap.size w wx)
  case first =>
    by_cases hc : W ≤ (k : Int)
    · have HE : Hid (N3 = N2 ++ [(k : Int) - W]) := by show _ = _; rw [E3.out, if_pos hc]
      go_wp2_with (at_builtin; refine wpList_append_own _ rfl _ _ 22 rfl (w.heap.size + 1) 3 i0 (.int .i64 0) 1 8 Try.underlying22 hi hz0 hz1 hz2 rfl (by decide) _ _ _ rfl (hown.alloc _) ⟨X2.heap.size, 0, none⟩ 1 1 [.int .i64 ((k : Int) - W)] rfl rfl (cell_one_new _ _ _) (fun x hx => by simp at hx; subst hx; rfl) (by unfold maxLen; first | omega | (simp; omega)) (by first | omega | (simp; omega)) (by simp; omega) ?_; intro v2 w3 hown2 hgrow3 hnil3)
      have hB' := below_growL hown (belowAlloc hB) hgrow3
      have kq := Blk.but hgrow3 (fun g e => by have := hown.lt g e; omega) (kB.alloc (o := .cells #[.int .i64 ((k : Int) - W)] 3))
      go_meet
      exact ⟨by rw [HE.out]; first | exact own_more hown2 | exact own_more (L := []) hown2, kq, hB'⟩
    · have HE : Hid (N3 = N2) := by show _ = _; rw [E3.out, if_neg hc, List.append_nil]
      go_wp2_with fail
      go_meet
      exact ⟨by rw [HE.out]; exact HO3.out, kB, hB⟩
  case rest =>
  clear aB bB kB hB hown hzs HO3
  obtain ⟨hown, kB, hB⟩ := hcut
  obtain ⟨X3, rfl⟩ : ∃ X, X = wc := ⟨_, rfl⟩
  obtain ⟨a3, c3, rfl⟩ := ownsRow_form hown
  obtain ⟨aB, bB⟩ := kB.read
  go_upto_if 47 with fail
  have hzs := hB.size
  have HO4 := Lib.hid hown
  go_cut [5] (fun s5 wx => wx.ownsRow (w.heap.size + 1) 3 1 s5 N4.length (iv N4) ∧ Blk wx w.heap.size #[.int .i64 W, .int .i64 H, .slice a n c] 24 ∧ Below w.heap.size w wx)
  case first =>
    by_cases hc : (k : Int) < Q
    · have HE : Hid (N4 = N3 ++ [(k : Int) + W]) := by show _ = _; rw [E4.out, if_pos hc]
      go_wp2_with (at_builtin; refine wpList_append_own _ rfl _ _ 22 rfl (w.heap.size + 1) 3 i0 (.int .i64 0) 1 8 Try.underlying22 hi hz0 hz1 hz2 rfl (by decide) _ _ _ rfl (hown.alloc _) ⟨X3.heap.size, 0, none⟩ 1 1 [.int .i64 ((k : Int) + W)] rfl rfl (cell_one_new _ _ _) (fun x hx => by simp at hx; subst hx; rfl) (by unfold maxLen; first | omega | (simp; omega)) (by first | omega | (simp; omega)) (by simp; omega) ?_; intro v2 w3 hown2 hgrow3 hnil3)
      have hB' := below_growL hown (belowAlloc hB) hgrow3
      have kq := Blk.but hgrow3 (fun g e => by have := hown.lt g e; omega) (kB.alloc (o := .cells #[.int .i64 ((k : Int) + W)] 3))
      go_meet
      exact ⟨by rw [HE.out]; first | exact own_more hown2 | exact own_more (L := []) hown2, kq, hB'⟩
    · have HE : Hid (N4 = N3) := by show _ = _; rw [E4.out, if_neg hc, List.append_nil]
      go_wp2_with fail
      go_meet
      exact ⟨by rw [HE.out]; exact HO4.out, kB, hB⟩
  case rest =>
  clear aB bB kB hB hown hzs HO4
  obtain ⟨hown, kB, hB⟩ := hcut
  obtain ⟨X4, rfl⟩ : ∃ X, X = wc := ⟨_, rfl⟩
  obtain ⟨a4, c4, rfl⟩ := ownsRow_form hown
  obtain ⟨aB, bB⟩ := kB.read
  have hr := (ownsRow_row hown)
  obtain ⟨v, e, hv, hrow⟩ := hr
  cases hv
  have HQ := Lib.hid hrow
  clear hown hrow
  go_wp2
  go_ret
  exact ⟨_, _, rfl, HQ.out, hB⟩
end Go.Proofs.Ytghmjdmiaajbnaa
/-
  Layer 2: the iterator over the offsets of a kernel or a shape.
-/
namespace Go.Proofs.Ytghmjdmiaajbnaa
open Go.RowKit Go.Shelf
set_option linter.unusedVariables false
set_option linter.unusedSimpArgs false

attribute [local go_sem] Oper.semAt_some

/-- The boxes that the iterator reads. -/
def OffG (Bw Bh : Nat) (Wd Hd : Int) (W : World) : Prop :=
  W.cell? ⟨Bw, 0, none⟩ = some (.int .i64 Wd) ∧ W.cell? ⟨Bh, 0, none⟩ = some (.int .i64 Hd)
def ofEnc {len : Nat} (Wd Hd : Int) (x : Pel len (fun _ _ => True)) : Array Value := #[.int .i64 x.1.1, .agg #[.int .i64 ((x.1.1 : Int) % Wd - Wd / 2), .int .i64 ((x.1.1 : Int) / Wd - Hd / 2)]]

set_option maxRecDepth 100000 in
set_option maxHeartbeats 2000000 in
theorem offs1_in (n l Bw Bh len : Nat) (Wd Hd : Int) (hn : 1 ≤ n) (hW : 1 ≤ Wd) (hW2 : Wd ≤ 64) (hH : 1 ≤ Hd) (hH2 : Hd ≤ 64) (hm : Wd * Hd = (len : Int)) (hlen : len ≤ 4096) (J Jx : List (Pel len (fun _ _ => True)) → World → Prop) (B : Nat)
    (hJ : AbidesFrom B J)
    (hY : ∀ pre x W, J pre W → pre.length < len → YieldAt Fence.wide (n - 1) Try.prog l (ofEnc Wd Hd x) W fun e W' =>
      (e = .returned (.bool true) ∧ J (pre ++ [x]) W' ∧ (OffG Bw Bh Wd Hd W → OffG Bw Bh Wd Hd W')) ∨ (e = .returned (.bool false) ∧ Jx (pre ++ [x]) W'))
    (W : World) (hG : OffG Bw Bh Wd Hd W) (h0 : J [] W) :
    CallsIn Fence.wide n Try.prog 107 #[.func (.yield l) #[] #[], .pointer (some ⟨Bw, 0, none⟩), .pointer (some ⟨Bh, 0, none⟩)] W fun e W' => (∃ v, e = .returned v) ∧
      ((∃ xs, PixAll len xs ∧ J xs W') ∨ (∃ pre, True ∧ Jx pre W')) := by
  have HY := Lib.hid hY
  clear hY
  have hmx : Try.prog.follows .mixedOrders = true := by kernel_rfl
  obtain ⟨g0, g1⟩ := hG
  have HG := Lib.hid (⟨g0, g1⟩ : OffG Bw Bh Wd Hd W)
  have hw : IntKind.i64.wrap (Wd * Hd) = (len : Int) := by rw [hm]; exact IntWalk.i64_in _ (by omega)
  have t7 : Wd.tdiv 2 = Wd / 2 := Int.tdiv_eq_ediv_of_nonneg (by omega)
  have t8 : Hd.tdiv 2 = Hd / 2 := Int.tdiv_eq_ediv_of_nonneg (by omega)
  have v7 : IntKind.i64.wrap (Wd / 2) = Wd / 2 := IntWalk.i64_in _ (by omega)
  have v8 : IntKind.i64.wrap (Hd / 2) = Hd / 2 := IntWalk.i64_in _ (by omega)
  clear hm
  refine callsIn_of_wp Try.func107 rfl trivial ?_ rfl
  simp only [Try.ntmps107, List.size_toArray, List.length_cons, List.length_nil, Nat.reduceAdd, Nat.reduceSub, Array.replicate_succ, Array.replicate_zero, List.push_toArray, List.append_toArray, List.nil_append, List.cons_append]
  gi_wp2
  clear g0 g1
  gi_loopw [8] (fun i wr => ∃ k : Nat, k ≤ len ∧ i = .int .i64 k ∧ ∃ pre, PixAll k pre ∧ J pre wr ∧ Hid (OffG Bw Bh Wd Hd wr))
    (fun i _ => len - (intOf i).toNat)
  case atStart => exact ⟨0, Nat.zero_le _, rfl, [], rfl, h0, HG⟩
  case round =>
    obtain ⟨k, hk, rfl, pre, hpre, hJs, HG'⟩ := hrel
    clear HG h0
    by_cases hlt : k < len
    · obtain ⟨c0, c1⟩ := HG'.out
      obtain ⟨v1, v2, v3, v4, v5, v6⟩ := small_div k Wd hW (by omega)
      have v9 : IntKind.i64.wrap ((k : Int) % Wd - Wd / 2) = (k : Int) % Wd - Wd / 2 := IntWalk.i64_in _ (by omega)
      have va : IntKind.i64.wrap ((k : Int) / Wd - Hd / 2) = (k : Int) / Wd - Hd / 2 := IntWalk.i64_in _ (by omega)
      have hne : ¬ Wd = 0 := by omega
      have hJd : J pre wr.drew := hJ pre wr wr.drew none hJs ⟨rfl, rfl, rfl, Nat.le_refl _, fun _ _ _ => rfl⟩ (fun r e => by cases e)
      obtain ⟨fn, tmps, assign, body, hy, hR⟩ := HY.out pre ⟨(k, 0), hlt, trivial⟩ wr.drew hJd (by rw [hpre.length]; exact hlt)
      dsimp only [ofEnc] at hy
      have hR' : RoundIn Fence.wide (n - 1) Try.prog l fn tmps assign body wr.drew (fun e W' => ∃ g, e = .returned (.bool g) ∧ Went (fun W' => J (pre ++ [⟨(k, 0), hlt, trivial⟩]) W' ∧ Hid (OffG Bw Bh Wd Hd W')) (fun W' => Jx (pre ++ [⟨(k, 0), hlt, trivial⟩]) W') g W') := by
        refine hR.mono ?_
        rintro e W3 (⟨rfl, hJ3, hk3⟩ | ⟨rfl, hJx3⟩)
        · exact ⟨true, rfl, .inl ⟨rfl, hJ3, Lib.hid (hk3 HG'.out)⟩⟩
        · exact ⟨false, rfl, .inr ⟨rfl, hJx3⟩⟩
      clear hR
      gi_wp2
      gi_region_with_o (refine hR'.mono ?_; rintro e W3 ⟨g, rfl, hW3⟩)
      all_goals
        rcases hW3 with ⟨rfl, hJ3, hG3⟩ | ⟨rfl, hJx3⟩
        · gi_wp2
          go_roundw
          case rel => exact ⟨k + 1, by omega, by go_num, _, hpre.snoc _ rfl, hJ3, hG3⟩
          case measure => simp [intOf]; omega
        · gi_wp2
          refine bodyPost_ret (results_none rfl _ _ _) rfl ?_
          exact ⟨⟨_, rfl⟩, .inr ⟨_, trivial, hJx3⟩⟩
    · obtain rfl : k = len := by omega
      gi_wp2
      go_end0
      exact ⟨⟨_, rfl⟩, .inl ⟨pre, hpre, hJs⟩⟩

set_option maxHeartbeats 1000000 in
theorem offsets_any (Wd Hd : Int) (w : World) :
    Calls Try.prog 63 #[.int .i64 Wd, .int .i64 Hd] w fun e w' => e = .returned (.func (.func 107) #[] #[.pointer (some ⟨w.heap.size, 0, none⟩), .pointer (some ⟨w.heap.size + 1, 0, none⟩)]) ∧ w' = (w.alloc (.cells #[.int .i64 Wd] 3)).alloc (.cells #[.int .i64 Hd] 3) := by
  go_enter Try.func63, Try.ntmps63
  go_wp2
  go_ret
  exact ⟨rfl, rfl⟩

/-- What a loop over the offsets may count on. -/
theorem offs_stops (n Bw Bh len : Nat) (Wd Hd : Int) (hn : 1 ≤ n) (hW : 1 ≤ Wd) (hW2 : Wd ≤ 64) (hH : 1 ≤ Hd) (hH2 : Hd ≤ 64) (hm : Wd * Hd = (len : Int)) (hlen : len ≤ 4096) (w : World) (hBw : Bw < w.heap.size) (hBh : Bh < w.heap.size) (hG : OffG Bw Bh Wd Hd w) :
    SeqStopsK Fence.wide n Try.prog 107 #[.pointer (some ⟨Bw, 0, none⟩), .pointer (some ⟨Bh, 0, none⟩)] (ofEnc (len := len) Wd Hd) (fun A C => OffG Bw Bh Wd Hd A → OffG Bw Bh Wd Hd C) (PixAll len) (fun _ => True) len w := fun l J Jx W hW' hJ _ hY h0 => by
  exact offs1_in n l Bw Bh len Wd Hd hn hW hW2 hH hH2 hm hlen J Jx _ hJ hY W ⟨cell_later hW' hG.1, cell_later hW' hG.2⟩ h0
end Go.Proofs.Ytghmjdmiaajbnaa
/-
  Layer 2: whether a shape is valid, by the code and by the document.
-/
namespace Go.Proofs.Ytghmjdmiaajbnaa
open Go.RowKit
set_option linter.unusedVariables false
set_option linter.unusedSimpArgs false

/-- A number may be a side of a kernel or of a shape. -/
def okK (n : Int) : Prop := n = 1 ∨ n = 3 ∨ n = 5
instance (n : Int) : Decidable (okK n) := inferInstanceAs (Decidable (_ ∨ _))
set_option maxHeartbeats 400000 in
theorem isKernelSide_any (n : Int) (w : World) :
    Calls Try.prog 103 #[.int .i64 n] w fun e w' => e = .returned (.bool (decide (okK n))) ∧ w = w' := by
  by_cases h1 : 1 ≤ n
  · by_cases h5 : n ≤ 5
    · have hc : n = 1 ∨ n = 2 ∨ n = 3 ∨ n = 4 ∨ n = 5 := by omega
      clear h1 h5
      rcases hc with rfl | rfl | rfl | rfl | rfl
      all_goals
        go_enter Try.func103, Try.ntmps103
        go_wp2
        go_ret
        exact ⟨rfl, rfl⟩
    · have hf : ¬ okK n := by unfold okK; omega
      rw [decide_eq_false hf]
      clear hf
      have h5' : 5 < n := by omega
      clear h5
      go_enter Try.func103, Try.ntmps103
      go_wp2
      go_ret
      exact ⟨rfl, rfl⟩
  · have hf : ¬ okK n := by unfold okK; omega
    rw [decide_eq_false hf]
    clear hf
    have h1' : n < 1 := by omega
    clear h1
    go_enter Try.func103, Try.ntmps103
    go_wp2
    go_ret
    exact ⟨rfl, rfl⟩
/-- A shape with these sides and cells is valid. -/
def okSh (W H : Int) (bs : List Bool) : Prop := (okK W ∧ okK H) ∧ (bs.length : Int) = W * H ∧ true ∈ bs
instance (W H : Int) (bs : List Bool) : Decidable (okSh W H bs) := inferInstanceAs (Decidable (_ ∧ _))
theorem okK_mul {W H : Int} (h1 : okK W) (h2 : okK H) : 1 ≤ W * H ∧ W * H ≤ 25 := by
  rcases h1 with rfl | rfl | rfl <;> rcases h2 with rfl | rfl | rfl <;> omega
def NoneUp (bs : List Bool) (k : Nat) : Prop := true ∉ bs.take k
theorem NoneUp.zero (bs : List Bool) : NoneUp bs 0 := fun h => by simp at h
theorem NoneUp.snoc {bs : List Bool} {k : Nat} (h : NoneUp bs k) (hz : bs[k]? = some false) : NoneUp bs (k + 1) := by
  unfold NoneUp
  rw [List.take_add_one, hz]
  intro hx
  rcases List.mem_append.1 hx with k | k
  · exact h k
  · simp at k
theorem NoneUp.all {bs : List Bool} {k : Nat} (h : NoneUp bs k) (hk : bs.length ≤ k) : true ∉ bs := by
  unfold NoneUp at h; rwa [List.take_of_length_le hk] at h

set_option maxHeartbeats 1000000 in
theorem isShape_any (W H : Int) (a : Option Addr) (n c : Nat) (bs : List Bool) (hn : n ≤ maxLen) (w : World) (hR : Row w a n (bv bs)) :
    Calls Try.prog 108 #[.agg #[.int .i64 W, .int .i64 H, .slice a n c]] w fun e w' => e = .returned (.bool (decide (okSh W H bs))) ∧ Below w.heap.size w w' := by
  unfold maxLen at hn
  have hlen : bs.length = n := by have := hR.1; rwa [bv_length] at this
  have HR := Lib.hid hR
  clear hR
  by_cases hW : okK W
  · have dW : decide (okK W) = true := decide_eq_true hW
    by_cases hH : okK H
    · have dH : decide (okK H) = true := decide_eq_true hH
      have hm := okK_mul hW hH
      by_cases hL : (n : Int) = W * H
      · have hl : ((n : Int) != W * H) = false := by simpa using hL
        have HO : Hid ((okK W ∧ okK H) ∧ (bs.length : Int) = W * H) := ⟨⟨hW, hH⟩, by rw [hlen]; exact hL⟩
        have HN := Lib.hid hlen
        clear hlen hL hW hH
        go_enter Try.func108, Try.ntmps108
        go_wp2_with (go_at_call 103; (with_reducible refine (isKernelSide_any _ _).mono ?_); rintro e w1 ⟨rfl, rfl⟩)
        go_loop [29] (fun i => ∃ k : Nat, k ≤ n ∧ i = .int .i64 k ∧ Hid (NoneUp bs k)) (fun i => n - (intOf i).toNat)
        case atStart => exact ⟨0, Nat.zero_le _, rfl, NoneUp.zero bs⟩
        case round =>
          obtain ⟨k, hk, rfl, hu⟩ := hrel
          by_cases hlt : k < n
          · obtain ⟨b, off, z, rfl, -, hz, hc⟩ := HR.out.bool hlt
            have hc := cell_alloc (o := .cells #[.int .i64 W, .int .i64 H, .slice (some ⟨b, off, none⟩) n c] 43) hc
            cases z
            · have hu' : Hid (NoneUp bs (k + 1)) := hu.out.snoc hz
              clear hz
              go_wp2
              go_round
              case rel => exact ⟨k + 1, hlt, by go_num, hu'⟩
              case measure => simp [intOf]; omega
            · have he : decide (okSh W H bs) = true := decide_eq_true ⟨HO.out.1, HO.out.2, List.mem_of_getElem? hz⟩
              clear hz
              go_wp2
              go_ret
              exact ⟨by first | rfl | rw [he], by (repeat' (first | (with_reducible exact Below.refl _ _) | (with_reducible assumption) | (with_reducible refine belowThru ?_ (by assumption)) | (with_reducible refine belowAlloc ?_) | (with_reducible refine Below.setCell ?_ (by first | omega | (simp; done) | (simp; omega)) _) | (with_reducible refine Below.drew ?_) | (with_reducible refine below_drewN ?_ _)))⟩
          · have he : decide (okSh W H bs) = false := decide_eq_false (fun h => hu.out.all (by rw [HN.out]; omega) h.2.2)
            go_wp2
            go_ret
            exact ⟨by first | rfl | rw [he], by (repeat' (first | (with_reducible exact Below.refl _ _) | (with_reducible assumption) | (with_reducible refine belowThru ?_ (by assumption)) | (with_reducible refine belowAlloc ?_) | (with_reducible refine Below.setCell ?_ (by first | omega | (simp; done) | (simp; omega)) _) | (with_reducible refine Below.drew ?_) | (with_reducible refine below_drewN ?_ _)))⟩
      · have hl : ((n : Int) != W * H) = true := by simpa using hL
        have he : decide (okSh W H bs) = false := decide_eq_false (fun h => hL (by rw [← hlen]; exact h.2.1))
        clear hlen hL hW hH
        rw [he]
        clear he
        go_enter Try.func108, Try.ntmps108
        go_wp2_with (go_at_call 103; (with_reducible refine (isKernelSide_any _ _).mono ?_); rintro e w1 ⟨rfl, rfl⟩)
        go_ret
        exact ⟨rfl, by (repeat' (first | (with_reducible exact Below.refl _ _) | (with_reducible assumption) | (with_reducible refine belowThru ?_ (by assumption)) | (with_reducible refine belowAlloc ?_) | (with_reducible refine Below.setCell ?_ (by first | omega | (simp; done) | (simp; omega)) _) | (with_reducible refine Below.drew ?_) | (with_reducible refine below_drewN ?_ _)))⟩
    · have dH : decide (okK H) = false := decide_eq_false hH
      rw [decide_eq_false (fun h => hH h.1.2 : ¬ okSh W H bs)]
      clear hlen hW hH
      go_enter Try.func108, Try.ntmps108
      go_wp2_with (go_at_call 103; (with_reducible refine (isKernelSide_any _ _).mono ?_); rintro e w1 ⟨rfl, rfl⟩)
      go_ret
      exact ⟨rfl, by (repeat' (first | (with_reducible exact Below.refl _ _) | (with_reducible assumption) | (with_reducible refine belowThru ?_ (by assumption)) | (with_reducible refine belowAlloc ?_) | (with_reducible refine Below.setCell ?_ (by first | omega | (simp; done) | (simp; omega)) _) | (with_reducible refine Below.drew ?_) | (with_reducible refine below_drewN ?_ _)))⟩
  · have dW : decide (okK W) = false := decide_eq_false hW
    rw [decide_eq_false (fun h => hW h.1.1 : ¬ okSh W H bs)]
    clear hlen hW
    go_enter Try.func108, Try.ntmps108
    go_wp2_with (go_at_call 103; (with_reducible refine (isKernelSide_any _ _).mono ?_); rintro e w1 ⟨rfl, rfl⟩)
    go_ret
    exact ⟨rfl, by (repeat' (first | (with_reducible exact Below.refl _ _) | (with_reducible assumption) | (with_reducible refine belowThru ?_ (by assumption)) | (with_reducible refine belowAlloc ?_) | (with_reducible refine Below.setCell ?_ (by first | omega | (simp; done) | (simp; omega)) _) | (with_reducible refine Below.drew ?_) | (with_reducible refine below_drewN ?_ _)))⟩
end Go.Proofs.Ytghmjdmiaajbnaa
