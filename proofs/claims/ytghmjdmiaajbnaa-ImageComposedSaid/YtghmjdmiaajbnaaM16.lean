/-
  The texts that the laws of this seat share, merged: part 16.
-/
import Derived.BigQuiet
import Derived.Carry
import Derived.Deep.CutRange
import Derived.Deep.DeepCutAuto
import Derived.Deep.Draws
import Derived.Deep.LoopGhost
import Derived.Deep.OwnRows
import Derived.Deep.QuietTactic
import Derived.Deep.RegionHeld3
import Derived.Laws.AppendOwn
import Derived.Laws.EntriesVeiled
import Derived.Laws.StructEq
import Derived.Lib.Hide
import Derived.LoopIn
import Derived.LoopNIn
import Derived.MapKept
import Derived.Maps.AppendAt
import Derived.OneCell
import Derived.Orders
import Derived.OwnWalkIn
import Derived.RangeFuncBound
import Derived.RangeFuncCalls
import Derived.RangeFuncLeaves
import Derived.RangeFuncNested
import Derived.Shelf.Abstract
import Derived.Shelf.AbstractIn
import Derived.Shelf.RegionOpen
import Derived.StillTailTactics
import Derived.TacticsIn
import Derived.TacticsInMore
import Derived.Test.YtghmjdmiaajbnaaProg
import Derived.WalkKit
import Derived.WalkSmall
import Derived.WalkSpells
import Derived.WideLaws
import Derived.Test.YtghmjdmiaajbnaaM6
import Derived.Test.YtghmjdmiaajbnaaM9
import Derived.Test.YtghmjdmiaajbnaaM15
/-
  Layer 2: the sum of a rectangle, by the code; sums of rows and columns, all answers.
-/
namespace Go.Proofs.Ytghmjdmiaajbnaa
open Go.RowKit Go.Shelf
set_option linter.unusedVariables false
set_option linter.unusedSimpArgs false

attribute [local go_sem] Oper.semAt_some

set_option maxHeartbeats 1000000 in
theorem ordered_any (p q r s : Int) (w : World) : Calls Try.prog 93 #[.int .i64 p, .int .i64 q, .int .i64 r, .int .i64 s] w fun e w' => e = .returned (.bool (decide (p ≤ q ∧ q ≤ r ∧ r ≤ s))) ∧ w = w' := by
  by_cases h1 : p ≤ q
  · have d1 : decide (p ≤ q) = true := decide_eq_true h1
    by_cases h2 : q ≤ r
    · have d2 : decide (q ≤ r) = true := decide_eq_true h2
      by_cases h3 : r ≤ s
      · have d3 : decide (r ≤ s) = true := decide_eq_true h3
        rw [decide_eq_true (show p ≤ q ∧ q ≤ r ∧ r ≤ s from ⟨h1, h2, h3⟩)]
        clear h1 h2 h3
        go_enter Try.func93, Try.ntmps93
        go_wp2
        go_ret
        exact ⟨rfl, rfl⟩
      · have d3 : decide (r ≤ s) = false := decide_eq_false h3
        rw [decide_eq_false (show ¬ (p ≤ q ∧ q ≤ r ∧ r ≤ s) from fun h => h3 h.2.2)]
        clear h1 h2 h3
        go_enter Try.func93, Try.ntmps93
        go_wp2
        go_ret
        exact ⟨rfl, rfl⟩
    · have d2 : decide (q ≤ r) = false := decide_eq_false h2
      rw [decide_eq_false (show ¬ (p ≤ q ∧ q ≤ r ∧ r ≤ s) from fun h => h2 h.2.1)]
      clear h1 h2
      go_enter Try.func93, Try.ntmps93
      go_wp2
      go_ret
      exact ⟨rfl, rfl⟩
  · have d1 : decide (p ≤ q) = false := decide_eq_false h1
    rw [decide_eq_false (show ¬ (p ≤ q ∧ q ≤ r ∧ r ≤ s) from fun h => h1 h.1)]
    clear h1
    go_enter Try.func93, Try.ntmps93
    go_wp2
    go_ret
    exact ⟨rfl, rfl⟩

theorem alloc2s (w : World) (c0 : Array Value) (t0 : TypeId) (c1 : Array Value) (t1 : TypeId) :
    ∃ W0, (w.alloc (.cells c0 t0)).alloc (.cells c1 t1) = W0 ∧ Blk W0 w.heap.size c0 t0 ∧ Blk W0 (w.heap.size + 1) c1 t1 ∧ Below w.heap.size w W0 ∧ W0.heap.size = w.heap.size + 1 + 1 :=
  ⟨_, rfl, Blk.alloc (Blk.new rfl), Blk.new (by simp), by (repeat' (first | (with_reducible exact Below.refl _ _) | (with_reducible assumption) | (with_reducible refine belowThru ?_ (by assumption)) | (with_reducible refine belowAlloc ?_) | (with_reducible refine Below.setCell ?_ (by first | omega | (simp; done) | (simp; omega)) _) | (with_reducible refine Below.drew ?_) | (with_reducible refine below_drewN ?_ _))), by simp⟩
/-- The sum of the values of some pixels that lie in a set of places. -/
def pickP {N : Nat} {zs : List Int} (B : Nat → Bool) (pre : List (Pel N (ValR zs))) : Int := (pre.map fun x => if B x.1.1 then x.1.2 else 0).foldl (· + ·) 0
theorem pickP_snoc {N : Nat} {zs : List Int} (B : Nat → Bool) (pre : List (Pel N (ValR zs))) (x : Pel N (ValR zs)) : pickP B (pre ++ [x]) = pickP B pre + if B x.1.1 then x.1.2 else 0 := by
  unfold pickP; rw [List.map_append, List.foldl_append]; rfl
theorem pickP_bd {N : Nat} {zs : List Int} (B : Nat → Bool) (pre : List (Pel N (ValR zs))) : -((pre.length : Int) * 2147483648) ≤ pickP B pre ∧ pickP B pre ≤ (pre.length : Int) * 2147483648 := by
  rw [← List.reverse_reverse pre]
  generalize pre.reverse = l
  induction l with
  | nil => simp [pickP]
  | cons x l ih =>
    rw [List.reverse_cons, pickP_snoc, List.length_append, List.length_singleton]
    have hv := x.2.2.2
    unfold okV at hv
    split <;> omega
theorem pickP_all {N : Nat} {zs : List Int} (B : Nat → Bool) {xs : List (Pel N (ValR zs))} (h : PixAll N xs) : pickP B xs = sumN (fun i => if B i then zs[i]?.getD 0 else 0) N := by
  rw [← fold_range, ← (show xs.map (fun x => x.1.1) = List.range N from h), List.map_map]
  unfold pickP
  congr 1
  refine List.map_congr_left fun x _ => ?_
  show _ = if B x.1.1 then zs[x.1.1]?.getD 0 else 0
  rw [x.2.2.1]; rfl
/-- The pixel lies in the rectangle. -/
def inB (W x0 y0 x1 y1 : Int) (k : Nat) : Bool := decide ((x0 ≤ (k : Int) % W ∧ (k : Int) % W < x1) ∧ y0 ≤ (k : Int) / W ∧ (k : Int) / W < y1)

set_option maxRecDepth 100000 in
set_option maxHeartbeats 8000000 in
theorem box_in (n : Nat) (hn : 3 ≤ n) (W H x0 y0 x1 y1 : Int) (bb off m c : Nat) (zs : List Int) (hI : okI W H zs) (hm : zs.length = m) (hx : 0 ≤ x0 ∧ x0 ≤ x1 ∧ x1 ≤ W) (hy : 0 ≤ y0 ∧ y0 ≤ y1 ∧ y1 ≤ H)
    (w : World) (hbb : bb < w.heap.size) (hR : ∀ j, j < m → ∃ z, ValR zs j z ∧ w.cell? ⟨bb, off + j, none⟩ = some (.int .i64 z))
    (HK : Hid (∀ w1, Below w.heap.size w w1 → Calls Try.prog 51 #[.agg #[.int .i64 W, .int .i64 H, .slice (some ⟨bb, off, none⟩) m c]] w1 fun e w' => e = .returned (.int .i64 0) ∧ Below w1.heap.size w1 w')) :
    CallsIn Fence.wide n Try.prog 48 #[.agg #[.int .i64 W, .int .i64 H, .slice (some ⟨bb, off, none⟩) m c], .int .i64 x0, .int .i64 y0, .int .i64 x1, .int .i64 y1] w fun e w' => e = .returned (.tuple #[.int .i64 (sumN (fun i => if inB W x0 y0 x1 y1 i then zs[i]?.getD 0 else 0) m), .int .i64 0]) ∧ Below w.heap.size w w' := by
  obtain ⟨⟨⟨w0, w1⟩, h0, h1⟩, hL, -⟩ := hI
  have hmul := okS_mul ⟨w0, w1⟩ ⟨h0, h1⟩
  have m1 : 1 ≤ m := by omega
  have m2 : m ≤ 256 := by omega
  have HR := Lib.hid hR
  have HO1 : Hid (∀ w, Calls Try.prog 93 #[.int .i64 0, .int .i64 x0, .int .i64 x1, .int .i64 W] w fun e w' => e = .returned (.bool true) ∧ w = w') := fun w => by have := ordered_any 0 x0 x1 W w; rwa [decide_eq_true hx] at this
  have HO2 : Hid (∀ w, Calls Try.prog 93 #[.int .i64 0, .int .i64 y0, .int .i64 y1, .int .i64 H] w fun e w' => e = .returned (.bool true) ∧ w = w') := fun w => by have := ordered_any 0 y0 y1 H w; rwa [decide_eq_true hy] at this
  clear hR hL hmul hm hx hy
  refine callsIn_of_wp_marks Try.func48 rfl trivial ?_ rfl
  simp only [Try.ntmps48, List.size_toArray, List.length_cons, List.length_nil, Nat.reduceAdd, Nat.reduceSub, Array.replicate_succ, Array.replicate_zero, List.push_toArray, List.append_toArray, List.nil_append, List.cons_append]
  have n1 : 1 ≤ n := by omega
  have n2 : 1 ≤ n - 1 - 1 := by omega
  have hmx : Try.prog.follows .mixedOrders = true := by kernel_rfl
  gi_wp2_with (first
    | ((try (refine ⟨trivial, ?_⟩)); gi_at_call 51; refine (callsIn_wide.2 (HK.out _ (by (repeat' (first | (with_reducible exact Below.refl _ _) | (with_reducible assumption) | (with_reducible refine belowThru ?_ (by assumption)) | (with_reducible refine belowAlloc ?_) | (with_reducible refine Below.setCell ?_ (by first | omega | (simp; done) | (simp; omega)) _) | (with_reducible refine Below.drew ?_) | (with_reducible refine below_drewN ?_ _)))))).mono ?_; rintro e wA ⟨rfl, hbA⟩; have km : Blk wA w.heap.size #[.int .i64 W, .int .i64 H, .slice (some ⟨bb, off, none⟩) m c] 24 := Blk.later hbA (Blk.alloc (Blk.alloc (Blk.alloc (Blk.alloc (Blk.new rfl))))); have kx0 : Blk wA (w.heap.size + 1) #[.int .i64 x0] 3 := Blk.later hbA (Blk.alloc (Blk.alloc (Blk.alloc (Blk.new (by simp))))); have ky0 : Blk wA (w.heap.size + 1 + 1) #[.int .i64 y0] 3 := Blk.later hbA (Blk.alloc (Blk.alloc (Blk.new (by simp)))); have kx1 : Blk wA (w.heap.size + 1 + 1 + 1) #[.int .i64 x1] 3 := Blk.later hbA (Blk.alloc (Blk.new (by simp))); have ky1 : Blk wA (w.heap.size + 1 + 1 + 1 + 1) #[.int .i64 y1] 3 := Blk.later hbA (Blk.new (by simp)); obtain ⟨am, bm⟩ := km.read; obtain ⟨ax0, bx0⟩ := kx0.read; obtain ⟨ay0, by0⟩ := ky0.read; obtain ⟨ax1, bx1⟩ := kx1.read; obtain ⟨ay1, by1⟩ := ky1.read; have zM := km.lt; have zM1 : w.heap.size < wA.heap.size + 1 := Nat.lt_succ_of_lt zM; have zY := ky1.lt; have hBA : Below w.heap.size w wA := (by (repeat' (first | (with_reducible exact Below.refl _ _) | (with_reducible assumption) | (with_reducible refine belowThru ?_ (by assumption)) | (with_reducible refine belowAlloc ?_) | (with_reducible refine Below.setCell ?_ (by first | omega | (simp; done) | (simp; omega)) _) | (with_reducible refine Below.drew ?_) | (with_reducible refine below_drewN ?_ _)))))
    | ((try (refine ⟨trivial, ?_⟩)); gi_at_call 93; (with_reducible refine (callsIn_wide.2 (HO1.out _)).mono ?_); rintro e w' ⟨rfl, rfl⟩)
    | ((try (refine ⟨trivial, ?_⟩)); gi_at_call 93; (with_reducible refine (callsIn_wide.2 (HO2.out _)).mono ?_); rintro e w' ⟨rfl, rfl⟩)
    | ((try (refine ⟨trivial, ?_⟩)); gi_at_call 69; refine (callsIn_wide.2 (pixels_any _ _ _ _ _ _)).mono ?_; rintro e w' ⟨rfl, rfl⟩))
  clear am bm ax0 bx0 ay0 by0 ax1 bx1 ay1 by1
  obtain ⟨W0, hW0, kS, kP, hB9, hsz⟩ := alloc2s wA #[.int .i64 0] 3 #[.int .i64 W, .int .i64 H, .slice (some ⟨bb, off, none⟩) m c] 86
  rw [hW0]
  have hB0 : Below w.heap.size w W0 := hBA.trans (hB9.mono hBA.size)
  have kx0' := Blk.later hB9 kx0; have ky0' := Blk.later hB9 ky0; have kx1' := Blk.later hB9 kx1; have ky1' := Blk.later hB9 ky1
  clear hW0
  have hG0 : PixG (wA.heap.size + 1) bb off m c W H (ValR zs) W0 :=
    ⟨kP.cells 0, kP.cells 1, kP.cells 2, fun j hj => by obtain ⟨z, hz, hc⟩ := HR.out j hj; exact ⟨z, hz, cell_later hB0 hc⟩⟩
  refine wpIn_rangeFunc_ownH rfl n1 (gf := 110) (lb := #[.pointer (some ⟨wA.heap.size + 1, 0, none⟩)]) rfl trivial (enters_of Try.func110 (by kernel_rfl) rfl)
    (pix_stops (n - 1) (wA.heap.size + 1) bb off m c W H (ValR zs) (by omega) w0 (by omega) W0 (by omega) (by omega) hG0)
    (fun hAB hBC hA => hBC (hAB hA))
    (fun W1 l o o' hl ho hc _ hG => PixG.putObj hG ho hc)
    (Below.refl _ _) (fun _ => rfl)
    (fun pre W1 => Blk W1 wA.heap.size #[.int .i64 (pickP (inB W x0 y0 x1 y1) pre)] 3 ∧ (Blk W1 (w.heap.size + 1) #[.int .i64 x0] 3 ∧ Blk W1 (w.heap.size + 1 + 1) #[.int .i64 y0] 3 ∧ Blk W1 (w.heap.size + 1 + 1 + 1) #[.int .i64 x1] 3 ∧ Blk W1 (w.heap.size + 1 + 1 + 1 + 1) #[.int .i64 y1] 3 ∧ Blk W1 (wA.heap.size + 1) #[.int .i64 W, .int .i64 H, .slice (some ⟨bb, off, none⟩) m c] 86) ∧ Below w.heap.size w W1)
    (fun _ _ _ => False)
    (fun s X Y row hs hg hr => by
      obtain ⟨kz, ⟨b0, b1, b2, b3, b4⟩, hb⟩ := hs
      have hr' := fun r e => (hr r e).2
      exact ⟨kz.own hg hr', ⟨b0.own hg hr', b1.own hg hr', b2.own hg hr', b3.own hg hr', b4.own hg hr'⟩, ownFrom_below (β := Unit) (Nat.le_refl _) hB0.size () X Y row hb hg hr⟩)
    (fun _ _ _ _ _ hs _ _ => hs)
    ⟨kS, ⟨kx0', ky0', kx1', ky1', kP⟩, hB0⟩
    (fun x a' W1 => ∃ Bx, Blk W1 Bx #[.int .i64 ((x.1.1 : Int) % W), .int .i64 ((x.1.1 : Int) / W)] 83 ∧ wA.heap.size + 1 < Bx ∧ a' = { tmps := #[.agg #[.int .i64 W, .int .i64 H, .slice (some ⟨bb, off, none⟩) m c], .int .i64 x0, .int .i64 y0, .int .i64 x1, .int .i64 y1, .pointer (some ⟨w.heap.size, 0, none⟩), .pointer (some ⟨w.heap.size + 1, 0, none⟩), .pointer (some ⟨w.heap.size + 1 + 1, 0, none⟩), .pointer (some ⟨w.heap.size + 1 + 1 + 1, 0, none⟩), .pointer (some ⟨w.heap.size + 1 + 1 + 1 + 1, 0, none⟩), .int .i64 0, .int .i64 0, .int .i64 0, .pointer (some ⟨wA.heap.size, 0, none⟩), .pointer (some ⟨Bx, 0, none⟩), .int .i64 x.1.2, .agg #[.int .i64 W, .int .i64 H, .slice (some ⟨bb, off, none⟩) m c], .int .i64 0, .int .i64 0, .bool false, undef, .int .i64 x0, .int .i64 x1, .pointer (some ⟨w.heap.size, 0, none⟩), .int .i64 W, .bool true, .bool false, .bool false, .int .i64 y0, .int .i64 y1, .pointer (some ⟨w.heap.size, 1, none⟩), .int .i64 H, .bool true, .bool false, .bool false, .agg #[.int .i64 W, .int .i64 H, .slice (some ⟨bb, off, none⟩) m c], .func (.func 110) #[] #[.pointer (some ⟨wA.heap.size + 1, 0, none⟩)], .agg #[.int .i64 ((x.1.1 : Int) % W), .int .i64 ((x.1.1 : Int) / W)], .int .i64 x.1.2, undef, undef, undef, undef, undef, undef, undef, undef, undef, undef, undef, undef, undef, undef, undef, undef, undef, undef, undef, undef, undef, undef, undef, undef, undef, undef], defers := [] })
    (fun x a' _ X Y row hs hg hr => by obtain ⟨Bx, h1, h2, h3⟩ := hs; exact ⟨Bx, h1.own hg (fun r e => (hr r e).2), h2, h3⟩)
    ?assign ?body ?done ?stop
  case assign =>
    rintro l pre x W1 K ⟨kz, ⟨b0, b1, b2, b3, b4⟩, hb⟩ hK
    have hsz1 := b4.lt
    simp only [pxEnc]
    gi_wp2
    exact hK _ _ ((KeepsOthers.alloc _ _).from _) (fun hG => hG.alloc _) ⟨kz.alloc, ⟨b0.alloc, b1.alloc, b2.alloc, b3.alloc, b4.alloc⟩, hb.alloc hb.size _⟩ ⟨W1.heap.size, Blk.new rfl, by omega, rfl⟩
  case body =>
    rintro l pre x a' W1 hl _ ⟨k0, ⟨k1, k2, k3, k4, k5⟩, hB⟩ ⟨Bx, k6, hx, rfl⟩ hlt
    obtain ⟨⟨k, z⟩, hk, ht⟩ := x
    dsimp only at hk k6 ⊢
    have hbd := pickP_bd (inB W x0 y0 x1 y1) pre
    obtain ⟨px, hpx⟩ : ∃ px, (k : Int) % W = px := ⟨_, rfl⟩
    obtain ⟨py, hpy⟩ : ∃ py, (k : Int) / W = py := ⟨_, rfl⟩
    obtain ⟨u, hue⟩ : ∃ u, pickP (inB W x0 y0 x1 y1) pre = u := ⟨_, rfl⟩
    rw [hpx, hpy] at k6 ⊢
    rw [hue] at hbd k0
    have hzb := ht.2
    unfold okV at hzb
    have q0 : -549755813888 ≤ u := by omega
    have q1 : u ≤ 549755813888 := by omega
    obtain ⟨q2, q3⟩ := hzb
    clear hbd
    obtain ⟨a0, b0⟩ := k0.read; obtain ⟨a1, b1⟩ := k1.read; obtain ⟨a2, b2⟩ := k2.read; obtain ⟨a3, b3⟩ := k3.read; obtain ⟨a4, b4⟩ := k4.read; obtain ⟨a6, b6⟩ := k6.read
    have zs0 := k0.lt
    have zY1 := zY
    have hbA := hBA.size
    clear hG0 kS kP km kx0 ky0 kx1 ky1 kx0' ky0' kx1' ky1' hB9
    by_cases h : (x0 ≤ px ∧ px < x1) ∧ y0 ≤ py ∧ py < y1
    · have q9 := h
      have d1 : decide (x0 ≤ px) = true := decide_eq_true h.1.1
      have d2 : decide (px < x1) = true := decide_eq_true h.1.2
      have d3 : decide (y0 ≤ py) = true := decide_eq_true h.2.1
      have d4 : decide (py < y1) = true := decide_eq_true h.2.2
      have hu' : pickP (inB W x0 y0 x1 y1) (pre ++ [⟨(k, z), hk, ht⟩]) = u + z := by rw [pickP_snoc, hue]; show u + (if inB W x0 y0 x1 y1 k = true then z else 0) = _; rw [if_pos (by unfold inB; rw [hpx, hpy]; exact decide_eq_true h)]
      have HU := Lib.hid hu'
      clear h hu' hue hpx hpy
      gi_wp2
      refine ⟨(KeepsOthers.setCell _ _ _).from _, fun h => h.set (by omega) (by omega), ?_, ⟨Blk.other k1 (by simp; omega), Blk.other k2 (by simp; omega), Blk.other k3 (by simp; omega), Blk.other k4 (by simp; omega), Blk.other k5 (by simp)⟩, by (repeat' (first | (with_reducible exact Below.refl _ _) | (with_reducible assumption) | (with_reducible refine belowThru ?_ (by assumption)) | (with_reducible refine belowAlloc ?_) | (with_reducible refine Below.setCell ?_ (by first | omega | (simp; done) | (simp; omega)) _) | (with_reducible refine Below.drew ?_) | (with_reducible refine below_drewN ?_ _)))⟩
      rw [HU.out]
      exact Blk.set k0
    · have hu' : pickP (inB W x0 y0 x1 y1) (pre ++ [⟨(k, z), hk, ht⟩]) = u := by rw [pickP_snoc, hue]; show u + (if inB W x0 y0 x1 y1 k = true then z else 0) = _; rw [if_neg (by unfold inB; rw [hpx, hpy]; simpa using h), Int.add_zero]
      have HU := Lib.hid hu'
      have HN := Lib.hid h
      clear h hu' hue hpx hpy
      by_cases h1 : x0 ≤ px
      · have d1 : decide (x0 ≤ px) = true := decide_eq_true h1
        by_cases h2 : px < x1
        · have d2 : decide (px < x1) = true := decide_eq_true h2
          by_cases h3 : y0 ≤ py
          · have d3 : decide (y0 ≤ py) = true := decide_eq_true h3
            by_cases h4 : py < y1
            · exact absurd ⟨⟨h1, h2⟩, h3, h4⟩ HN.out
            · have d4 : decide (py < y1) = false := decide_eq_false h4
              clear h1 h2 h3 h4 HN
              gi_wp2
              refine ⟨KeepsFrom.refl _ _, fun h => h, ?_, ⟨k1, k2, k3, k4, k5⟩, hB⟩
              rw [HU.out]
              exact k0
          · have d3 : decide (y0 ≤ py) = false := decide_eq_false h3
            clear h1 h2 h3 HN
            gi_wp2
            refine ⟨KeepsFrom.refl _ _, fun h => h, ?_, ⟨k1, k2, k3, k4, k5⟩, hB⟩
            rw [HU.out]
            exact k0
        · have d2 : decide (px < x1) = false := decide_eq_false h2
          clear h1 h2 HN
          gi_wp2
          refine ⟨KeepsFrom.refl _ _, fun h => h, ?_, ⟨k1, k2, k3, k4, k5⟩, hB⟩
          rw [HU.out]
          exact k0
      · have d1 : decide (x0 ≤ px) = false := decide_eq_false h1
        clear h1 HN
        gi_wp2
        refine ⟨KeepsFrom.refl _ _, fun h => h, ?_, ⟨k1, k2, k3, k4, k5⟩, hB⟩
        rw [HU.out]
        exact k0
  case done =>
    rintro D xs W1 hD hall ⟨kz, ⟨b0, b1, b2, b3, b4⟩, hb⟩ hK
    rw [pickP_all _ hall] at kz
    obtain ⟨e1, f1⟩ := kz.read
    gi_wp2
    have hAz := hBA.size
    refine ⟨by simp, .inl ⟨_, _, rfl, run_takeDeferred hK, ?_⟩⟩
    refine ⟨.tuple #[.int .i64 (sumN (fun i => if inB W x0 y0 x1 y1 i then zs[i]?.getD 0 else 0) m), .int .i64 0], ?_, rfl, hb.trans (belowK_b (w := w) (Nat.le_refl _) W1 D _ _ (by omega) hK rfl rfl)⟩
    simp only [results, Try.results48]
    go_simp
  case stop =>
    rintro D c pre W1 _ _ h _
    exact h.elim

end Go.Proofs.Ytghmjdmiaajbnaa
/-
  Layer 2: dilated and eroded images, said outright; the statements' own examples of convolutions, shapes, turns, points and sums.
-/
namespace Go.Proofs.Ytghmjdmiaajbnaa
open Go.RowKit
set_option linter.unusedVariables false
set_option linter.unusedSimpArgs false

theorem dilate_ok (W H SW SH : Int) (a a' : Option Addr) (n c m c' : Nat) (zs : List Int) (bs : List Bool) (hI : okI W H zs) (hS : okSh SW SH bs) (hn : n ≤ maxLen) (hm : m ≤ maxLen) (w : World) (hR : Row w a n (iv zs)) (hT : Row w a' m (bv bs)) :
    Calls Try.prog 25 #[.agg #[.int .i64 W, .int .i64 H, .slice a n c], .agg #[.int .i64 SW, .int .i64 SH, .slice a' m c']] w (RetI W H (made n fun k => exD W H zs SW SH bs ((k : Int) % W) ((k : Int) / W) m) 0 w) := by
  have hl : zs.length = n := by have := hR.1; rwa [iv_length] at this
  have hN : W * H = (n : Int) := by rw [← hl]; exact hI.2.1.symm
  refine dilate_of W H SW SH _ _ _ _ a a' n c m c' zs bs w hR hT (Lib.hid (fun w hR hT => extremes_ok W H SW SH (-2147483648) 64 68 (fun p q => (if p < q then q else p)) (fun x y (k : Nat) => (x - ((k : Int) % SW - SW / 2))) (fun x y (k : Nat) => (y - ((k : Int) / SW - SH / 2))) (fun k => exD W H zs SW SH bs ((k : Int) % W) ((k : Int) / W) m) a a' n c m c' zs bs (fun (j : Nat) => stpD W H zs SW SH bs ((j : Int) % W) ((j : Int) / W)) hI hS hn hm w hR hT (enters_of Try.func64 (by kernel_rfl) rfl) (enters_of Try.func68 (by kernel_rfl) rfl) ?_ (Lib.hid (fun p q w => dilate1_any p q w)) ?_ ?_ ?_))
  · refine Lib.hid (fun j hj k hk w => ?_)
    have hp := place_in hI.1.1 hI.1.2 hN hj
    have h1 := hI.1.1.2; have h2 := hI.1.2.2
    have s1 : 1 ≤ SW ∧ SW ≤ 5 := by have := hS.1.1; unfold okK at this; omega
    have s2 : 1 ≤ SH ∧ SH ≤ 5 := by have := hS.1.2; unfold okK at this; omega
    have hb : bs.length = m := by have := hT.1; rwa [bv_length] at this
    have hm2 : m ≤ 25 := by have := okK_mul hS.1.1 hS.1.2; have := hS.2.1; omega
    have := small_div k SW s1.1 (by omega)
    exact minus_any _ _ _ _ (by omega) (by omega) (by omega) (by omega) w
  · exact Lib.hid (fun j p k h1 h2 => if_pos ⟨by rw [h1]; rfl, h2⟩)
  · exact Lib.hid (fun j p k h => if_neg (fun ⟨h1, h2⟩ => h.elim (fun e => by rw [e] at h1; cases h1) (fun e => e h2)))
  · exact Lib.hid (fun j _ => ⟨exD_fold W H zs SW SH bs _ _ m, exD_ok hI SW SH bs _ _ m⟩)

/-! ### The examples -/
theorem a_conv (a a' : Option Addr) (c c' : Nat) (w : World) (hR : Row w a 3 (iv [1, 2, 3])) (hT : Row w a' 3 (iv [1, 0, -1])) :
    Calls Try.prog 20 #[.agg #[.int .i64 3, .int .i64 1, .slice a 3 c], .agg #[.int .i64 3, .int .i64 1, .slice a' 3 c'], .int .u8 3] w (RetI 3 1 [-1, 2, -1] 0 w) := by
  have h := convolve_ok 3 3 1 3 1 (by omega) a a' 3 c 3 c' [1, 2, 3] [1, 0, -1] (by decide) (by decide) (by decide) (by decide) w hR hT
  rwa [show (made 3 fun k => inR (cvN 3 3 1 [1, 2, 3] 3 1 [1, 0, -1] ((k : Int) % 3) ((k : Int) / 3) 3) (-2147483648) 2147483648) = [-1, 2, -1] by kernel_rfl] at h
theorem a_dil (a a' : Option Addr) (c c' : Nat) (w : World) (hR : Row w a 3 (iv [5, 1, 4])) (hT : Row w a' 3 (bv [true, true, true])) :
    Calls Try.prog 25 #[.agg #[.int .i64 3, .int .i64 1, .slice a 3 c], .agg #[.int .i64 3, .int .i64 1, .slice a' 3 c']] w (RetI 3 1 [5, 5, 4] 0 w) := by
  have h := dilate_ok 3 1 3 1 a a' 3 c 3 c' [5, 1, 4] [true, true, true] (by decide) (by decide) (by decide) (by decide) w hR hT
  rwa [show (made 3 fun k => exD 3 1 [5, 1, 4] 3 1 [true, true, true] ((k : Int) % 3) ((k : Int) / 3) 3) = [5, 5, 4] by kernel_rfl] at h
theorem a_turn (a : Option Addr) (c : Nat) (w : World) (hR : Row w a 6 (iv [1, 2, 3, 4, 5, 6])) :
    Calls Try.prog 49 #[.agg #[.int .i64 3, .int .i64 2, .slice a 6 c]] w (RetI 2 3 [4, 1, 5, 2, 6, 3] 0 w) := by
  have h := turn_ok 3 2 a 6 c [1, 2, 3, 4, 5, 6] (by decide) (by decide) w hR
  rwa [show (made ([1, 2, 3, 4, 5, 6] : List Int).length fun k => pixAt 3 [1, 2, 3, 4, 5, 6] ((k : Int) / 2) (2 - 1 - (k : Int) % 2)) = [4, 1, 5, 2, 6, 3] by kernel_rfl] at h
theorem a_point (a : Option Addr) (c : Nat) (w : World) (hR : Row w a 1 (iv [7])) :
    Calls Try.prog 15 #[.agg #[.int .i64 1, .int .i64 1, .slice a 1 c], .agg #[.int .i64 (-1), .int .i64 0, .int .i64 2, .int .i64 (-100), .int .i64 100]] w (RetI 1 1 [-4] 0 w) := by
  have h := point_ok 1 1 (-1) 0 2 (-100) 100 a 1 c [7] (by decide) (by decide) (by decide) w hR
  rwa [show (made 1 fun k => ptV (-1) 0 2 (-100) 100 (([7] : List Int)[k]?.getD 0)) = [-4] by kernel_rfl] at h
theorem a_box (a : Option Addr) (c : Nat) (w : World) (hR : Row w a 4 (iv [1, 2, 3, 4])) :
    Calls Try.prog 48 #[.agg #[.int .i64 2, .int .i64 2, .slice a 4 c], .int .i64 0, .int .i64 0, .int .i64 2, .int .i64 1] w fun e w' => e = .returned (.tuple #[.int .i64 3, .int .i64 0]) ∧ Below w.heap.size w w' := by
  have hI : okI 2 2 [1, 2, 3, 4] := by decide
  obtain ⟨bb, off, rfl, hbb, hlen, hc⟩ := row_vals2 hI hR (by omega)
  have h := (callsIn_wide (n := 9)).1 (box_in 9 (by omega) 2 2 0 0 2 1 bb off 4 c [1, 2, 3, 4] hI rfl (by omega) (by omega) w hbb hc (Lib.hid (fun w1 h1 => icheck_ok hI _ 4 c (by decide) w1 (hR.later h1))))
  rwa [show sumN (fun i => if inB 2 0 0 2 1 i then ([1, 2, 3, 4] : List Int)[i]?.getD 0 else 0) 4 = 3 by kernel_rfl] at h
end Go.Proofs.Ytghmjdmiaajbnaa
