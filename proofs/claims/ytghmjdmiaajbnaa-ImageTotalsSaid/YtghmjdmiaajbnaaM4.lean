/-
  The texts that the laws of this seat share, merged: part 4.
-/
import Derived.BigQuiet
import Derived.Deep.Draws
import Derived.Deep.OwnRows
import Derived.Deep.QuietTactic
import Derived.Deep.RegionHeld3
import Derived.Laws.AppendOwn
import Derived.Lib.Hide
import Derived.LoopIn
import Derived.LoopNIn
import Derived.OneCell
import Derived.Orders
import Derived.OwnWalkIn
import Derived.RangeFuncBound
import Derived.RangeFuncCalls
import Derived.RangeFuncLeaves
import Derived.RangeFuncNested
import Derived.Shelf.Abstract
import Derived.Shelf.AbstractIn
import Derived.Shelf.RegionOpen
import Derived.TacticsInMore
import Derived.Test.YtghmjdmiaajbnaaProg
import Derived.WalkKit
import Derived.WalkSmall
import Derived.WalkSpells
import Derived.Test.YtghmjdmiaajbnaaM3
/-
  Layer 2: the sums of all pixels above and to the left, by the code.
-/
namespace Go.Proofs.Ytghmjdmiaajbnaa
open Go.RowKit Go.Shelf
set_option linter.unusedVariables false
set_option linter.unusedSimpArgs false

attribute [local go_sem] Oper.semAt_some

theorem PixAll.split {len k : Nat} {R : Nat → Int → Prop} {xs : List (Pel len R)} {x : Pel len R} (h : PixAll (k + 1) (xs ++ [x])) : PixAll k xs ∧ x.1.1 = k := by
  unfold PixAll at *
  rw [List.map_append, List.range_succ] at h
  have := List.append_inj' h rfl
  exact ⟨this.1, by simpa using this.2⟩
/-- What is known of the integral when k pixels have come. -/
def IntegOk (W H : Nat) (zs ls : List Int) (k : Nat) : Prop := ∀ i j, i ≤ W → j ≤ H → ls[j * (W + 1) + i]? = some (if i = 0 ∨ j = 0 ∨ (j - 1) * W + (i - 1) < k then boxN W zs 0 0 i j else 0)
theorem place_inj {V i j i' j' : Nat} (h1 : i < V) (h2 : i' < V) (h : j * V + i = j' * V + i') : i = i' ∧ j = j' := by
  obtain ⟨a1, a2⟩ := divmod_place (y := j) h1
  obtain ⟨b1, b2⟩ := divmod_place (y := j') h2
  rw [h] at a1 a2
  exact ⟨a1.symm.trans b1, a2.symm.trans b2⟩
theorem IntegOk.start (W H : Nat) (zs : List Int) : IntegOk W H zs (List.replicate ((W + 1) * (H + 1)) 0) 0 := by
  intro i j hi hj
  have h1 := Nat.mul_le_mul_right (W + 1) hj
  have h2 : (W + 1) * (H + 1) = H * (W + 1) + (W + 1) := by rw [Nat.mul_succ, Nat.mul_comm]
  rw [List.getElem?_replicate, if_pos (by omega)]
  congr 1
  by_cases h : i = 0 ∨ j = 0 ∨ (j - 1) * W + (i - 1) < 0
  · rw [if_pos h]
    rcases h with rfl | rfl | h
    · exact (box_x0 W zs j).symm
    · exact (box_y0 W zs i).symm
    · omega
  · rw [if_neg h]
theorem IntegOk.succ {W H : Nat} {zs ls : List Int} {x y : Nat} {z : Int} (h : IntegOk W H zs ls (y * W + x)) (hx : x < W) (hy : y < H) (hz : pxN W zs x y = z) (hl : ls.length = (W + 1) * (H + 1)) :
    ∃ u1 u2 u3 : Int, ls[(y + 1) * (W + 1) + x]? = some u1 ∧ ls[y * (W + 1) + (x + 1)]? = some u2 ∧ ls[y * (W + 1) + x]? = some u3 ∧
      u1 = boxN W zs 0 0 x (y + 1) ∧ u2 = boxN W zs 0 0 (x + 1) y ∧ u3 = boxN W zs 0 0 x y ∧ IntegOk W H zs (ls.set ((y + 1) * (W + 1) + (x + 1)) (z + u1 + u2 - u3)) (y * W + x + 1) := by
  have g1 := h x (y + 1) (by omega) (by omega)
  have g2 := h (x + 1) y (by omega) (by omega)
  have g3 := h x y (by omega) (by omega)
  have hy1 : (y - 1) * W + W ≤ y * W ∨ y = 0 := by
    rcases Nat.eq_zero_or_pos y with e | e
    · exact .inr e
    · left
      obtain ⟨y', rfl⟩ : ∃ y', y = y' + 1 := ⟨y - 1, by omega⟩
      rw [Nat.add_sub_cancel, Nat.succ_mul]; exact Nat.le_refl _
  rw [if_pos (by rw [Nat.add_sub_cancel]; omega)] at g1
  rw [if_pos (by rw [Nat.add_sub_cancel]; omega)] at g2
  rw [if_pos (by omega)] at g3
  refine ⟨_, _, _, g1, g2, g3, rfl, rfl, rfl, fun i j hi hj => ?_⟩
  have hq : (y + 1) * (W + 1) + (x + 1) < ls.length := by
    rw [hl, Nat.mul_succ (W + 1) H, Nat.mul_comm (W + 1) H]
    have := Nat.mul_le_mul_right (W + 1) (show y + 1 ≤ H by omega)
    omega
  by_cases e : (y + 1) * (W + 1) + (x + 1) = j * (W + 1) + i
  · obtain ⟨rfl, rfl⟩ := place_inj (V := W + 1) (by omega) (by omega) e
    rw [List.getElem?_set_self hq, if_pos (by rw [Nat.add_sub_cancel, Nat.add_sub_cancel]; omega)]
    congr 1
    have := box_step W zs x y
    omega
  · rw [List.getElem?_set_ne e, h i j hi hj]
    congr 1
    by_cases k : i = 0 ∨ j = 0 ∨ (j - 1) * W + (i - 1) < y * W + x
    · rw [if_pos k, if_pos (by omega)]
    · rw [if_neg k, if_neg]
      rintro (k1 | k1 | k1)
      · exact k (.inl k1)
      · exact k (.inr (.inl k1))
      · have e2 : (j - 1) * W + (i - 1) = y * W + x := by omega
        obtain ⟨e3, e4⟩ := place_inj (V := W) (by omega) hx e2
        exact e (by rw [show i = x + 1 by omega, show j = y + 1 by omega])
theorem IntegOk.all {W H : Nat} {zs ls : List Int} (h : IntegOk W H zs ls (W * H)) (hl : ls.length = (W + 1) * (H + 1)) : ls = (List.range ((W + 1) * (H + 1))).map fun q => boxN W zs 0 0 (q % (W + 1)) (q / (W + 1)) := by
  apply List.ext_getElem?
  intro q
  by_cases hq : q < (W + 1) * (H + 1)
  · have h1 : q % (W + 1) < W + 1 := Nat.mod_lt _ (by omega)
    have h2 : q / (W + 1) < H + 1 := Nat.div_lt_of_lt_mul hq
    have h3 := h (q % (W + 1)) (q / (W + 1)) (by omega) (by omega)
    rw [Nat.mul_comm, Nat.div_add_mod] at h3
    rw [h3, List.getElem?_map, List.getElem?_range hq]
    show _ = some _
    congr 1
    rw [if_pos]
    rcases Nat.eq_zero_or_pos (q % (W + 1)) with e | e
    · exact .inl e
    · rcases Nat.eq_zero_or_pos (q / (W + 1)) with e' | e'
      · exact .inr (.inl e')
      · right; right
        have := Nat.mul_le_mul_right W (show q / (W + 1) - 1 + 1 ≤ H by omega)
        rw [Nat.succ_mul, Nat.mul_comm H] at this
        omega
  · rw [List.getElem?_eq_none (by omega), List.getElem?_eq_none (by simp; omega)]
/-- The new list, whatever has come. -/
def IntegP {N : Nat} {zs : List Int} (W H : Nat) (pre : List (Pel N (ValR zs))) (ls : List Int) : Prop := ls.length = (W + 1) * (H + 1) ∧ (PixAll pre.length pre → IntegOk W H zs ls pre.length)

/-- What holds of the region whichever operations have come up. -/
def IntegI (M q q1 q2 q3 Bx m c bb off : Nat) (W H V px py z u1 u2 u3 s1 s2 s3 : Int) (zs ls : List Int) (w wA W1 : World) (i37 i38 i39 i40 i41 i42 i43 i44 i45 i46 i47 i48 i49 i50 i51 i52 i53 i54 i55 i56 i57 i58 i59 i60 i61 : Value) (b9 : Act) (L9 : Array Bool) (a9 : Act) (w9 : World) : Prop :=
  ∃ (gg0 gg1 gg2 gg3 gg4 gg5 gg6 gg7 gg8 gg9 gg10 gg11 gg12 gg13 gg14 gg15 gg16 gg17 gg18 gg19 gg20 gg21 gg22 gg23 gg24 gg25 : Bool), L9 = #[gg0, gg1, gg2, gg3, gg4, gg5, gg6, gg7, gg8, gg9, gg10, gg11, gg12, gg13, gg14, gg15, gg16, gg17, gg18, gg19, gg20, gg21, gg22, gg23, gg24, gg25] ∧ a9 = (((((((((((((((((((((((((b9).put (some 37) (cond gg0 (.slice (some ⟨wA.heap.size + 1, 0, none⟩) M M) (i37))).put (some 38) (cond gg1 (.int .i64 (q : Int)) (i38))).put (some 39) (cond gg2 (.int .i64 z) (i39))).put (some 40) (cond gg3 (.slice (some ⟨wA.heap.size + 1, 0, none⟩) M M) (i40))).put (some 41) (cond gg4 (.int .i64 (q : Int)) (i41))).put (some 42) (cond gg5 (.int .i64 (q1 : Int)) (i42))).put (some 43) (cond gg6 (.pointer (some ⟨wA.heap.size + 1, q1, none⟩)) (i43))).put (some 44) (cond gg7 (.int .i64 u1) (i44))).put (some 45) (cond gg8 (.int .i64 s1) (i45))).put (some 46) (cond gg9 (.slice (some ⟨wA.heap.size + 1, 0, none⟩) M M) (i46))).put (some 47) (cond gg10 (.int .i64 (q : Int)) (i47))).put (some 48) (cond gg11 (.int .i64 V) (i48))).put (some 49) (cond gg12 (.int .i64 (q2 : Int)) (i49))).put (some 50) (cond gg13 (.pointer (some ⟨wA.heap.size + 1, q2, none⟩)) (i50))).put (some 51) (cond gg14 (.int .i64 u2) (i51))).put (some 52) (cond gg15 (.int .i64 s2) (i52))).put (some 53) (cond gg16 (.slice (some ⟨wA.heap.size + 1, 0, none⟩) M M) (i53))).put (some 54) (cond gg17 (.int .i64 (q : Int)) (i54))).put (some 55) (cond gg18 (.int .i64 V) (i55))).put (some 56) (cond gg19 (.int .i64 (q2 : Int)) (i56))).put (some 57) (cond gg20 (.int .i64 (q3 : Int)) (i57))).put (some 58) (cond gg21 (.pointer (some ⟨wA.heap.size + 1, q3, none⟩)) (i58))).put (some 59) (cond gg22 (.int .i64 u3) (i59))).put (some 60) (cond gg23 (.int .i64 s3) (i60))).put (some 61) (cond gg24 (.pointer (some ⟨wA.heap.size + 1, q, none⟩)) (i61)) ∧ Blk w9 wA.heap.size #[.int .i64 V] 3 ∧ Blk w9 (wA.heap.size + 1 + 1) #[.slice (some ⟨wA.heap.size + 1, 0, none⟩) M M] 22 ∧ Blk w9 Bx #[.int .i64 px, .int .i64 py] 83 ∧ Blk w9 (wA.heap.size + 1 + 1 + 1) #[.int .i64 W, .int .i64 H, .slice (some ⟨bb, off, none⟩) m c] 86 ∧ Blk w9 (wA.heap.size + 1) (cond gg25 ((ints ls).setIfInBounds q (.int .i64 s3)) (ints ls)) 3 ∧ Below w.heap.size w w9 ∧ wA.heap.size ≤ w9.heap.size ∧ KeepsFrom (wA.heap.size + 1 + 1 + 1 + 1) W1 w9 ∧ (PixG (wA.heap.size + 1 + 1 + 1) bb off m c W H (ValR zs) W1 → PixG (wA.heap.size + 1 + 1 + 1) bb off m c W H (ValR zs) w9) ∧ (gg25 = true → gg7 = true) ∧ (gg25 = true → gg14 = true) ∧ (gg25 = true → gg22 = true)

theorem alloc4s (w : World) (c0 : Array Value) (t0 : TypeId) (c1 : Array Value) (t1 : TypeId) (c2 : Array Value) (t2 : TypeId) (c3 : Array Value) (t3 : TypeId) :
    ∃ W0, (((w.alloc (.cells c0 t0)).alloc (.cells c1 t1)).alloc (.cells c2 t2)).alloc (.cells c3 t3) = W0 ∧ Blk W0 w.heap.size c0 t0 ∧ Blk W0 (w.heap.size + 1) c1 t1 ∧ Blk W0 (w.heap.size + 1 + 1) c2 t2 ∧ Blk W0 (w.heap.size + 1 + 1 + 1) c3 t3 ∧ Below w.heap.size w W0 ∧ W0.heap.size = w.heap.size + 1 + 1 + 1 + 1 :=
  ⟨_, rfl, Blk.alloc (Blk.alloc (Blk.alloc (Blk.new rfl))), Blk.alloc (Blk.alloc (Blk.new (by simp))), Blk.alloc (Blk.new (by simp)), Blk.new (by simp), by (repeat' (first | (with_reducible exact Below.refl _ _) | (with_reducible assumption) | (with_reducible refine belowThru ?_ (by assumption)) | (with_reducible refine belowAlloc ?_) | (with_reducible refine Below.setCell ?_ (by first | omega | (simp; done) | (simp; omega)) _) | (with_reducible refine Below.drew ?_) | (with_reducible refine below_drewN ?_ _))), by simp⟩
set_option maxRecDepth 100000 in
set_option maxHeartbeats 8000000 in
theorem integ_in (n : Nat) (hn : 3 ≤ n) (W H : Int) (Wn Hn M : Nat) (hWn : W = (Wn : Int)) (hHn : H = (Hn : Int)) (hMn : M = (Wn + 1) * (Hn + 1)) (bb off m c : Nat) (zs : List Int) (hI : okI W H zs) (hm : zs.length = m)
    (w : World) (hbb : bb < w.heap.size) (hR : ∀ j, j < m → ∃ z, ValR zs j z ∧ w.cell? ⟨bb, off + j, none⟩ = some (.int .i64 z))
    (HK : Hid (∀ w1, Below w.heap.size w w1 → Calls Try.prog 51 #[.agg #[.int .i64 W, .int .i64 H, .slice (some ⟨bb, off, none⟩) m c]] w1 fun e w' => e = .returned (.int .i64 0) ∧ Below w1.heap.size w1 w')) :
    CallsIn Fence.wide n Try.prog 30 #[.agg #[.int .i64 W, .int .i64 H, .slice (some ⟨bb, off, none⟩) m c]] w fun e w' => ∃ g, e = .returned (.tuple #[.slice (some ⟨g, 0, none⟩) M M, .int .i64 0]) ∧ w.heap.size ≤ g ∧ Blk w' g (ints ((List.range M).map fun q => boxN Wn zs 0 0 (q % (Wn + 1)) (q / (Wn + 1)))) 3 ∧ Below w.heap.size w w' := by
  obtain ⟨⟨⟨w0, w1⟩, h0, h1⟩, hL, hzz⟩ := hI
  have HZ : Hid (∀ z ∈ zs, -2147483648 ≤ z ∧ z ≤ 2147483648) := fun z hz => by have := hzz z hz; unfold okV at this; exact this
  clear hzz
  have hmul := okS_mul ⟨w0, w1⟩ ⟨h0, h1⟩
  have m1 : 1 ≤ m := by omega
  have m2 : m ≤ 256 := by omega
  have hM1 : M ≤ 289 := by
    rw [hMn]; exact Nat.mul_le_mul (show Wn + 1 ≤ 17 by omega) (show Hn + 1 ≤ 17 by omega)
  have HMN := Lib.hid hMn
  have hmWH : m = Wn * Hn := by
    have : ((Wn * Hn : Nat) : Int) = W * H := by rw [Int.natCast_mul, ← hWn, ← hHn]
    omega
  have hmk := run_make_ints M (by omega)
  obtain ⟨V, hV⟩ : ∃ V, W + 1 = V := ⟨_, rfl⟩
  have hVn : V = ((Wn + 1 : Nat) : Int) := by omega
  have hMV : V * (H + 1) = (M : Int) := by rw [hMn, Int.natCast_mul, ← hVn]; congr 1; omega
  have v0 : 2 ≤ V := by omega
  have v1 : V ≤ 17 := by omega
  have hwM : IntKind.i64.wrap (M : Int) = (M : Int) := IntWalk.i64_in _ (by omega)
  have HVN := Lib.hid hVn
  have HWN := Lib.hid hWn
  have HHN := Lib.hid hHn
  have HMW := Lib.hid hmWH
  have HR := Lib.hid hR
  clear hR hL hmul hm hMn hVn hWn hHn hmWH
  refine callsIn_of_wp_marks Try.func30 rfl trivial ?_ rfl
  simp only [Try.ntmps30, List.size_toArray, List.length_cons, List.length_nil, Nat.reduceAdd, Nat.reduceSub, Array.replicate_succ, Array.replicate_zero, List.push_toArray, List.append_toArray, List.nil_append, List.cons_append]
  have n1 : 1 ≤ n := by omega
  have n2 : 1 ≤ n - 1 - 1 := by omega
  have hmx : Try.prog.follows .mixedOrders = true := by kernel_rfl
  gi_wp2_with (first
    | ((try (refine ⟨trivial, ?_⟩)); gi_at_call 51; refine (callsIn_wide.2 (HK.out _ (by (repeat' (first | (with_reducible exact Below.refl _ _) | (with_reducible assumption) | (with_reducible refine belowThru ?_ (by assumption)) | (with_reducible refine belowAlloc ?_) | (with_reducible refine Below.setCell ?_ (by first | omega | (simp; done) | (simp; omega)) _) | (with_reducible refine Below.drew ?_) | (with_reducible refine below_drewN ?_ _)))))).mono ?_; rintro e wA ⟨rfl, hbA⟩; have km : Blk wA w.heap.size #[.int .i64 W, .int .i64 H, .slice (some ⟨bb, off, none⟩) m c] 24 := Blk.later hbA (Blk.new rfl); obtain ⟨am, bm⟩ := km.read; have zM := km.lt; have zM1 : w.heap.size < wA.heap.size + 1 := Nat.lt_succ_of_lt zM; have zM2 : w.heap.size < wA.heap.size + 1 + 1 := Nat.lt_succ_of_lt zM1; have hBA : Below w.heap.size w wA := (by (repeat' (first | (with_reducible exact Below.refl _ _) | (with_reducible assumption) | (with_reducible refine belowThru ?_ (by assumption)) | (with_reducible refine belowAlloc ?_) | (with_reducible refine Below.setCell ?_ (by first | omega | (simp; done) | (simp; omega)) _) | (with_reducible refine Below.drew ?_) | (with_reducible refine below_drewN ?_ _)))))
    | ((try (refine ⟨trivial, ?_⟩)); gi_at_call 69; refine (callsIn_wide.2 (pixels_any _ _ _ _ _ _)).mono ?_; rintro e w' ⟨rfl, rfl⟩))
  clear am bm hmk hMV hV hwM
  obtain ⟨W0, hW0, kW, kL, kB, kP, hB9, hsz⟩ := alloc4s wA #[.int .i64 V] 3 (ints (List.replicate M 0)) 3 #[.slice (some ⟨wA.heap.size + 1, 0, none⟩) M M] 22 #[.int .i64 W, .int .i64 H, .slice (some ⟨bb, off, none⟩) m c] 86
  rw [hW0]
  have hB0 : Below w.heap.size w W0 := hBA.trans (hB9.mono hBA.size)
  clear hW0
  have hG0 : PixG (wA.heap.size + 1 + 1 + 1) bb off m c W H (ValR zs) W0 :=
    ⟨kP.cells 0, kP.cells 1, kP.cells 2, fun j hj => by obtain ⟨z, hz, hc⟩ := HR.out j hj; exact ⟨z, hz, cell_later hB0 hc⟩⟩
  refine wpIn_rangeFunc_ownH rfl n1 (gf := 110) (lb := #[.pointer (some ⟨wA.heap.size + 1 + 1 + 1, 0, none⟩)]) rfl trivial (enters_of Try.func110 (by kernel_rfl) rfl)
    (pix_stops (n - 1) (wA.heap.size + 1 + 1 + 1) bb off m c W H (ValR zs) (by omega) w0 (by omega) W0 (by omega) (by omega) hG0)
    (fun hAB hBC hA => hBC (hAB hA))
    (fun W1 l o o' hl ho hc _ hG => PixG.putObj hG ho hc)
    (Below.refl _ _) (fun _ => rfl)
    (fun pre W1 => (∃ ls, IntegP Wn Hn pre ls ∧ Blk W1 (wA.heap.size + 1) (ints ls) 3) ∧ (Blk W1 wA.heap.size #[.int .i64 V] 3 ∧ Blk W1 (wA.heap.size + 1 + 1) #[.slice (some ⟨wA.heap.size + 1, 0, none⟩) M M] 22 ∧ Blk W1 (wA.heap.size + 1 + 1 + 1) #[.int .i64 W, .int .i64 H, .slice (some ⟨bb, off, none⟩) m c] 86) ∧ Below w.heap.size w W1)
    (fun _ _ _ => False)
    (fun s X Y row hs hg hr => by
      obtain ⟨⟨zs, hp, kz⟩, ⟨b0, b1, b2⟩, hb⟩ := hs
      have hr' := fun r e => (hr r e).2
      exact ⟨⟨zs, hp, kz.own hg hr'⟩, ⟨b0.own hg hr', b1.own hg hr', b2.own hg hr'⟩, ownFrom_below (β := Unit) (Nat.le_refl _) hB0.size () X Y row hb hg hr⟩)
    (fun _ _ _ _ _ hs _ _ => hs)
    ⟨⟨_, ⟨by rw [List.length_replicate]; exact HMN.out, fun _ => by rw [HMN.out]; exact IntegOk.start Wn Hn zs⟩, kL⟩, ⟨kW, kB, kP⟩, hB0⟩
    (fun x a' W1 => ∃ Bx, Blk W1 Bx #[.int .i64 ((x.1.1 : Int) % W), .int .i64 ((x.1.1 : Int) / W)] 83 ∧ wA.heap.size + 1 + 1 + 1 < Bx ∧ a' = { tmps := #[.agg #[.int .i64 W, .int .i64 H, .slice (some ⟨bb, off, none⟩) m c], .pointer (some ⟨w.heap.size, 0, none⟩), .slice none 0 0, .int .i64 0, .int .i64 0, .pointer (some ⟨wA.heap.size, 0, none⟩), .pointer (some ⟨wA.heap.size + 1 + 1, 0, none⟩), .pointer (some ⟨Bx, 0, none⟩), .int .i64 x.1.2, undef, .agg #[.int .i64 W, .int .i64 H, .slice (some ⟨bb, off, none⟩) m c], .int .i64 0, .int .i64 0, .bool false, undef, .pointer (some ⟨w.heap.size, 0, none⟩), .int .i64 W, .int .i64 V, .int .i64 V, .pointer (some ⟨w.heap.size, 1, none⟩), .int .i64 H, .int .i64 (H + 1), .int .i64 M, .slice (some ⟨wA.heap.size + 1, 0, none⟩) M M, .agg #[.int .i64 W, .int .i64 H, .slice (some ⟨bb, off, none⟩) m c], .func (.func 110) #[] #[.pointer (some ⟨wA.heap.size + 1 + 1 + 1, 0, none⟩)], .agg #[.int .i64 ((x.1.1 : Int) % W), .int .i64 ((x.1.1 : Int) / W)], .int .i64 x.1.2, undef, undef, undef, undef, undef, undef, undef, undef, undef, undef, undef, undef, undef, undef, undef, undef, undef, undef, undef, undef, undef, undef, undef, undef, undef, undef, undef, undef, undef, undef, undef, undef, undef, undef, undef], defers := [] })
    (fun x a' _ X Y row hs hg hr => by obtain ⟨Bx, h1, h2, h3⟩ := hs; exact ⟨Bx, h1.own hg (fun r e => (hr r e).2), h2, h3⟩)
    ?assign ?body ?done ?stop
  case assign =>
    rintro l pre x W1 K ⟨⟨zs, hp, kz⟩, ⟨b0, b1, b2⟩, hb⟩ hK
    have hsz1 := b2.lt
    simp only [pxEnc]
    gi_wp2
    exact hK _ _ ((KeepsOthers.alloc _ _).from _) (fun hG => hG.alloc _) ⟨⟨zs, hp, kz.alloc⟩, ⟨b0.alloc, b1.alloc, b2.alloc⟩, hb.alloc hb.size _⟩ ⟨W1.heap.size, Blk.new rfl, by omega, rfl⟩
  case body =>
    rintro l pre x a' W1 hl _ ⟨⟨ls, hp, k3⟩, ⟨k0, k1, k4⟩, hB⟩ ⟨Bx, k2, hx, rfl⟩ hlt
    obtain ⟨⟨k, z⟩, hk, ht⟩ := x
    dsimp only at hk k2 ⊢
    have hWp : 0 < Wn := by have := HWN.out; omega
    obtain ⟨px, hpx⟩ : ∃ px, (k : Int) % W = px := ⟨_, rfl⟩
    obtain ⟨py, hpy⟩ : ∃ py, (k : Int) / W = py := ⟨_, rfl⟩
    obtain ⟨xn, hxn⟩ : ∃ xn, k % Wn = xn := ⟨_, rfl⟩
    obtain ⟨yn, hyn⟩ : ∃ yn, k / Wn = yn := ⟨_, rfl⟩
    have epx : px = (xn : Int) := by rw [← hpx, ← hxn, HWN.out]; rfl
    have epy : py = (yn : Int) := by rw [← hpy, ← hyn, HWN.out]; rfl
    rw [hpx, hpy] at k2 ⊢
    have hxl : xn < Wn := by rw [← hxn]; exact Nat.mod_lt _ hWp
    have hyl : yn < Hn := by rw [← hyn]; exact Nat.div_lt_of_lt_mul (by rw [← HMW.out]; exact hk)
    have hkk : k = yn * Wn + xn := by rw [← hxn, ← hyn, Nat.mul_comm]; exact (Nat.div_add_mod k Wn).symm
    have hW16 : Wn ≤ 16 := by have := HWN.out; omega
    have hH16 : Hn ≤ 16 := by have := HHN.out; omega
    clear hpx hpy hxn hyn
    have hlM : ls.length = M := hp.1.trans HMN.out.symm
    have hMs : M = Hn * (Wn + 1) + (Wn + 1) := by rw [HMN.out, Nat.mul_succ, Nat.mul_comm]
    have hr1 := Nat.mul_le_mul_right (Wn + 1) (show yn + 1 ≤ Hn by omega)
    have hr2 : (yn + 1) * (Wn + 1) = yn * (Wn + 1) + (Wn + 1) := Nat.succ_mul _ _
    obtain ⟨q, hq⟩ : ∃ q, (yn + 1) * (Wn + 1) + (xn + 1) = q := ⟨_, rfl⟩
    obtain ⟨q1, hq1⟩ : ∃ q1, (yn + 1) * (Wn + 1) + xn = q1 := ⟨_, rfl⟩
    obtain ⟨q2, hq2⟩ : ∃ q2, yn * (Wn + 1) + (xn + 1) = q2 := ⟨_, rfl⟩
    obtain ⟨q3, hq3⟩ : ∃ q3, yn * (Wn + 1) + xn = q3 := ⟨_, rfl⟩
    have l0 : q < M := by omega
    have l1 : q1 < M := by omega
    have l2 : q2 < M := by omega
    have l3 : q3 < M := by omega
    have e0 : ls[q]? = some (ls[q]'(by omega)) := List.getElem?_eq_getElem (by omega)
    have e1 : ls[q1]? = some (ls[q1]'(by omega)) := List.getElem?_eq_getElem (by omega)
    have e2 : ls[q2]? = some (ls[q2]'(by omega)) := List.getElem?_eq_getElem (by omega)
    have e3 : ls[q3]? = some (ls[q3]'(by omega)) := List.getElem?_eq_getElem (by omega)
    generalize ls[q]'_ = u0 at e0
    generalize ls[q1]'_ = u1 at e1
    generalize ls[q2]'_ = u2 at e2
    generalize ls[q3]'_ = u3 at e3
    obtain ⟨s1, hs1⟩ : ∃ s1, IntKind.i64.wrap (z + u1) = s1 := ⟨_, rfl⟩
    obtain ⟨s2, hs2⟩ : ∃ s2, IntKind.i64.wrap (s1 + u2) = s2 := ⟨_, rfl⟩
    obtain ⟨s3, hs3⟩ : ∃ s3, IntKind.i64.wrap (s2 - u3) = s3 := ⟨_, rfl⟩
    have hp' : IntegP Wn Hn (pre ++ [⟨(k, z), hk, ht⟩]) (ls.set q s3) := by
      refine ⟨by rw [List.length_set]; exact hp.1, fun ho => ?_⟩
      rw [List.length_append, List.length_singleton] at ho ⊢
      obtain ⟨o1, o2⟩ := ho.split
      have o2' : k = pre.length := o2
      have hio := hp.2 o1
      rw [← o2', hkk] at hio ⊢
      obtain ⟨a1, a2, a3, c1, c2, c3, d1, d2, d3, hnew⟩ := hio.succ hxl hyl (z := z) (by unfold pxN; rw [← hkk, ht.1]; rfl) hp.1
      rw [hq1, e1] at c1; rw [hq2, e2] at c2; rw [hq3, e3] at c3
      obtain rfl := Option.some.inj c1
      obtain rfl := Option.some.inj c2
      obtain rfl := Option.some.inj c3
      have hvb : ∀ z ∈ zs, -2147483648 ≤ z ∧ z ≤ 2147483648 := HZ.out
      have f1 := box_bd (W := Wn) (by decide) hvb 0 0 xn (yn + 1)
      have f2 := box_bd (W := Wn) (by decide) hvb 0 0 (xn + 1) yn
      have f3 := box_bd (W := Wn) (by decide) hvb 0 0 xn yn
      have hzb := ht.2
      unfold okV at hzb
      have g1 : ((yn + 1 : Nat) : Int) * ((xn : Int) * 2147483648) ≤ 16 * (16 * 2147483648) := Int.mul_le_mul (by omega) (by omega) (by omega) (by omega)
      have g2 : (yn : Int) * (((xn + 1 : Nat) : Int) * 2147483648) ≤ 16 * (16 * 2147483648) := Int.mul_le_mul (by omega) (by omega) (by omega) (by omega)
      have g3 : (yn : Int) * ((xn : Int) * 2147483648) ≤ 16 * (16 * 2147483648) := Int.mul_le_mul (by omega) (by omega) (by omega) (by omega)
      rw [← d1] at f1; rw [← d2] at f2; rw [← d3] at f3
      have t1 : s1 = z + u1 := by rw [← hs1]; exact IntWalk.i64_in _ (by omega)
      have t2 : s2 = z + u1 + u2 := by rw [← hs2, t1]; exact IntWalk.i64_in _ (by omega)
      have t3 : s3 = z + u1 + u2 - u3 := by rw [← hs3, t2]; exact IntWalk.i64_in _ (by omega)
      rw [t3, ← hq]
      exact hnew
    have HU0 : Hid (∃ u, (ints ls)[q]? = some (.int .i64 u)) := ⟨u0, by rw [ints_get, e0]; rfl⟩
    have HU1 : Hid ((ints ls)[q1]? = some (.int .i64 u1)) := by show _ = _; rw [ints_get, e1]; rfl
    have HU2 : Hid ((ints ls)[q2]? = some (.int .i64 u2)) := by show _ = _; rw [ints_get, e2]; rfl
    have HU3 : Hid ((ints ls)[q3]? = some (.int .i64 u3)) := by show _ = _; rw [ints_get, e3]; rfl
    have HS := Lib.hid hp'
    have hVc : V = (Wn : Int) + 1 := by have := HVN.out; omega
    obtain ⟨y1, hy1⟩ : ∃ y1, py + 1 = y1 := ⟨_, rfl⟩
    obtain ⟨t1, ht1⟩ : ∃ t1, y1 * V = t1 := ⟨_, rfl⟩
    have ht1n : t1 = (((yn + 1) * (Wn + 1) : Nat) : Int) := by rw [← ht1, ← hy1, epy, Int.natCast_mul, HVN.out]; rfl
    obtain ⟨t2, ht2⟩ : ∃ t2, t1 + px = t2 := ⟨_, rfl⟩
    have ht3 : t2 + 1 = (q : Int) := by omega
    have b1 : 0 ≤ y1 := by omega
    have b2 : y1 ≤ 17 := by omega
    have b3 : 0 ≤ t1 := by omega
    have b4 : t1 ≤ 1000 := by omega
    have b5 : 0 ≤ t2 := by omega
    have b6 : t2 ≤ 1000 := by omega
    have r1 : (q : Int) - 1 = (q1 : Int) := by omega
    have r2 : (q : Int) - V = (q2 : Int) := by omega
    have r3 : (q2 : Int) - 1 = (q3 : Int) := by omega
    have l0' : (q : Int) < (M : Int) := by omega
    have l1' : (q1 : Int) < (M : Int) := by omega
    have l2' : (q2 : Int) < (M : Int) := by omega
    have l3' : (q3 : Int) < (M : Int) := by omega
    have z0' : (0 : Int) ≤ (q : Int) := by omega
    have z1' : (0 : Int) ≤ (q1 : Int) := by omega
    have z2' : (0 : Int) ≤ (q2 : Int) := by omega
    have z3' : (0 : Int) ≤ (q3 : Int) := by omega
    have mm : (M : Int) ≤ 1000 := by omega
    have hbw := hB.size
    have hbA := hBA.size
    have zk0 := k0.lt
    obtain ⟨ax0, bx0⟩ := k0.read
    obtain ⟨ax2, bx2⟩ := k2.read
    have zk2 := k2.lt
    clear hp hp' e0 e1 e2 e3 ht1n hVc epx epy hkk hlM hMs hr1 hr2 hq hq1 hq2 hq3 l0 l1 l2 l3 hG0 kL kB kP kW km hB9 hxl hyl hWp
    gi_wp2
    clear hy1 ht1 ht2 ht3 b1 b2 b3 b4 b5 b6
    have hwq : IntKind.i64.wrap (q : Int) = (q : Int) := IntWalk.i64_in _ (by omega)
    have hwq1 : IntKind.i64.wrap (q1 : Int) = (q1 : Int) := IntWalk.i64_in _ (by omega)
    have hwq2 : IntKind.i64.wrap (q2 : Int) = (q2 : Int) := IntWalk.i64_in _ (by omega)
    have hwq3 : IntKind.i64.wrap (q3 : Int) = (q3 : Int) := IntWalk.i64_in _ (by omega)
    refine wp_region_inv_in (IntegI M q q1 q2 q3 Bx m c bb off W H V px py z u1 u2 u3 s1 s2 s3 zs ls w wA W1 ?i37 ?i38 ?i39 ?i40 ?i41 ?i42 ?i43 ?i44 ?i45 ?i46 ?i47 ?i48 ?i49 ?i50 ?i51 ?i52 ?i53 ?i54 ?i55 ?i56 ?i57 ?i58 ?i59 ?i60 ?i61) (by kernel_rfl) (by kernel_rfl) (by kernel_rfl) (by rintro ⟨_, _, h⟩; exact h) ?hsz ?hst ?hstep ?hfin
    case hst =>
      unfold IntegI
      refine ⟨false, false, false, false, false, false, false, false, false, false, false, false, false, false, false, false, false, false, false, false, false, false, false, false, false, false, rfl, ?_, ?_, ?_, ?_, ?_, ?_, ?_, ?_, ?_, ?_, ?_, ?_, ?_⟩
      · first | (simp only [Act.put, List.setIfInBounds_toArray, List.set_cons_zero, List.set_cons_succ, cond_false]; done) | (simp only [Act.put, List.setIfInBounds_toArray, List.set_cons_zero, List.set_cons_succ, cond_false]; rfl)
      all_goals (first | (exact (KeepsOthers.drew _).from _; done) | (exact fun h => h.drew; done) | (intro h; cases h; done) | ((repeat' (first | (with_reducible assumption) | ((with_reducible refine Blk.new ?_); first | rfl | (simp; done)) | (with_reducible refine Blk.later (by assumption) ?_) | (with_reducible refine Blk.alloc ?_) | (with_reducible refine Blk.drewN ?_) | (with_reducible refine Blk.drew ?_) | (with_reducible refine Blk.other ?_ (by first | omega | (simp; done) | (simp; omega))))); done) | ((repeat' (first | (with_reducible exact Below.refl _ _) | (with_reducible assumption) | (with_reducible refine belowThru ?_ (by assumption)) | (with_reducible refine belowAlloc ?_) | (with_reducible refine Below.setCell ?_ (by first | omega | (simp; done) | (simp; omega)) _) | (with_reducible refine Below.drew ?_) | (with_reducible refine below_drewN ?_ _))); done) | (simp only [cond_false]; (repeat' (first | (with_reducible assumption) | ((with_reducible refine Blk.new ?_); first | rfl | (simp; done)) | (with_reducible refine Blk.later (by assumption) ?_) | (with_reducible refine Blk.alloc ?_) | (with_reducible refine Blk.drewN ?_) | (with_reducible refine Blk.drew ?_) | (with_reducible refine Blk.other ?_ (by first | omega | (simp; done) | (simp; omega))))); done) | (simp only [World.size_drew]; omega) | (simp only [World.size_drew] at *; omega) | (simp; done) | (simp; omega))
    case hsz =>
      intro L a w9 h
      obtain ⟨gg0, gg1, gg2, gg3, gg4, gg5, gg6, gg7, gg8, gg9, gg10, gg11, gg12, gg13, gg14, gg15, gg16, gg17, gg18, gg19, gg20, gg21, gg22, gg23, gg24, gg25, rfl, -⟩ := h; rfl
    case hstep =>
      intro L a w9 hI i hi
      obtain ⟨gg0, gg1, gg2, gg3, gg4, gg5, gg6, gg7, gg8, gg9, gg10, gg11, gg12, gg13, gg14, gg15, gg16, gg17, gg18, gg19, gg20, gg21, gg22, gg23, gg24, gg25, rfl, rfl, fb0, fb1, fb2, fb3, fb4, fB, fL, exE, exP, h7_25, h14_25, h22_25⟩ := hI
      obtain ⟨hi1, hi2, o, ho, hall⟩ := inv_mem hi
      clear hi
      rcases i with _ | _ | _ | _ | _ | _ | _ | _ | _ | _ | _ | _ | _ | _ | _ | _ | _ | _ | _ | _ | _ | _ | _ | _ | _ | _ | i
      · have ge0 : gg0 = false := hi2
        clear hall hi1 hi2
        subst ge0
        have ho2 := ho
        simp only [List.getElem?_toArray, List.getElem?_cons_zero, List.getElem?_cons_succ] at ho2
        have ho3 := Option.some.inj ho2; clear ho2; subst ho3
        obtain ⟨ba0, bb0⟩ := fb0.read; have bl0 := fb0.lt
        obtain ⟨ba1, bb1⟩ := fb1.read; have bl1 := fb1.lt
        obtain ⟨ba2, bb2⟩ := fb2.read; have bl2 := fb2.lt
        obtain ⟨ba3, bb3⟩ := fb3.read; have bl3 := fb3.lt
        simp only [Act.put, List.setIfInBounds_toArray, List.set_cons_zero, List.set_cons_succ]
        simp only [cond_true, cond_false]
        refine inv_op ho (by kernel_rfl) (fun K hK => ?_)
        clear ho
        go_simp
        refine hK.out _ _ ?_
        unfold IntegI
        refine ⟨true, gg1, gg2, gg3, gg4, gg5, gg6, gg7, gg8, gg9, gg10, gg11, gg12, gg13, gg14, gg15, gg16, gg17, gg18, gg19, gg20, gg21, gg22, gg23, gg24, gg25, rfl, by simp only [Act.put, List.setIfInBounds_toArray, List.set_cons_zero, List.set_cons_succ, cond_true, cond_false, Bool.cond_self], ?_, ?_, ?_, ?_, ?_, ?_, ?_, ?_, ?_, ?_, ?_, ?_⟩
        · exact fb0
        · exact fb1
        · exact fb2
        · exact fb3
        · exact fb4
        · exact fB
        · exact fL
        · exact exE
        · exact exP
        · exact h7_25
        · exact h14_25
        · exact h22_25
      · have ge1 : gg1 = false := hi2
        clear hall hi1 hi2
        subst ge1
        have ho2 := ho
        simp only [List.getElem?_toArray, List.getElem?_cons_zero, List.getElem?_cons_succ] at ho2
        have ho3 := Option.some.inj ho2; clear ho2; subst ho3
        obtain ⟨ba0, bb0⟩ := fb0.read; have bl0 := fb0.lt
        obtain ⟨ba1, bb1⟩ := fb1.read; have bl1 := fb1.lt
        obtain ⟨ba2, bb2⟩ := fb2.read; have bl2 := fb2.lt
        obtain ⟨ba3, bb3⟩ := fb3.read; have bl3 := fb3.lt
        simp only [Act.put, List.setIfInBounds_toArray, List.set_cons_zero, List.set_cons_succ]
        simp only [cond_true, cond_false]
        refine inv_op ho (by kernel_rfl) (fun K hK => ?_)
        clear ho
        go_simp
        refine hK.out _ _ ?_
        unfold IntegI
        refine ⟨gg0, true, gg2, gg3, gg4, gg5, gg6, gg7, gg8, gg9, gg10, gg11, gg12, gg13, gg14, gg15, gg16, gg17, gg18, gg19, gg20, gg21, gg22, gg23, gg24, gg25, rfl, by simp only [Act.put, List.setIfInBounds_toArray, List.set_cons_zero, List.set_cons_succ, cond_true, cond_false, Bool.cond_self], ?_, ?_, ?_, ?_, ?_, ?_, ?_, ?_, ?_, ?_, ?_, ?_⟩
        · exact fb0
        · exact fb1
        · exact fb2
        · exact fb3
        · exact fb4
        · exact fB
        · exact fL
        · exact exE
        · exact exP
        · exact h7_25
        · exact h14_25
        · exact h22_25
      · have ge2 : gg2 = false := hi2
        clear hall hi1 hi2
        subst ge2
        have ho2 := ho
        simp only [List.getElem?_toArray, List.getElem?_cons_zero, List.getElem?_cons_succ] at ho2
        have ho3 := Option.some.inj ho2; clear ho2; subst ho3
        obtain ⟨ba0, bb0⟩ := fb0.read; have bl0 := fb0.lt
        obtain ⟨ba1, bb1⟩ := fb1.read; have bl1 := fb1.lt
        obtain ⟨ba2, bb2⟩ := fb2.read; have bl2 := fb2.lt
        obtain ⟨ba3, bb3⟩ := fb3.read; have bl3 := fb3.lt
        simp only [Act.put, List.setIfInBounds_toArray, List.set_cons_zero, List.set_cons_succ]
        simp only [cond_true, cond_false]
        refine inv_op ho (by kernel_rfl) (fun K hK => ?_)
        clear ho
        go_simp
        refine hK.out _ _ ?_
        unfold IntegI
        refine ⟨gg0, gg1, true, gg3, gg4, gg5, gg6, gg7, gg8, gg9, gg10, gg11, gg12, gg13, gg14, gg15, gg16, gg17, gg18, gg19, gg20, gg21, gg22, gg23, gg24, gg25, rfl, by simp only [Act.put, List.setIfInBounds_toArray, List.set_cons_zero, List.set_cons_succ, cond_true, cond_false, Bool.cond_self], ?_, ?_, ?_, ?_, ?_, ?_, ?_, ?_, ?_, ?_, ?_, ?_⟩
        · exact fb0
        · exact fb1
        · exact fb2
        · exact fb3
        · exact fb4
        · exact fB
        · exact fL
        · exact exE
        · exact exP
        · exact h7_25
        · exact h14_25
        · exact h22_25
      · have ge3 : gg3 = false := hi2
        clear hall hi1 hi2
        subst ge3
        have ho2 := ho
        simp only [List.getElem?_toArray, List.getElem?_cons_zero, List.getElem?_cons_succ] at ho2
        have ho3 := Option.some.inj ho2; clear ho2; subst ho3
        obtain ⟨ba0, bb0⟩ := fb0.read; have bl0 := fb0.lt
        obtain ⟨ba1, bb1⟩ := fb1.read; have bl1 := fb1.lt
        obtain ⟨ba2, bb2⟩ := fb2.read; have bl2 := fb2.lt
        obtain ⟨ba3, bb3⟩ := fb3.read; have bl3 := fb3.lt
        simp only [Act.put, List.setIfInBounds_toArray, List.set_cons_zero, List.set_cons_succ]
        simp only [cond_true, cond_false]
        refine inv_op ho (by kernel_rfl) (fun K hK => ?_)
        clear ho
        go_simp
        refine hK.out _ _ ?_
        unfold IntegI
        refine ⟨gg0, gg1, gg2, true, gg4, gg5, gg6, gg7, gg8, gg9, gg10, gg11, gg12, gg13, gg14, gg15, gg16, gg17, gg18, gg19, gg20, gg21, gg22, gg23, gg24, gg25, rfl, by simp only [Act.put, List.setIfInBounds_toArray, List.set_cons_zero, List.set_cons_succ, cond_true, cond_false, Bool.cond_self], ?_, ?_, ?_, ?_, ?_, ?_, ?_, ?_, ?_, ?_, ?_, ?_⟩
        · exact fb0
        · exact fb1
        · exact fb2
        · exact fb3
        · exact fb4
        · exact fB
        · exact fL
        · exact exE
        · exact exP
        · exact h7_25
        · exact h14_25
        · exact h22_25
      · have ge4 : gg4 = false := hi2
        clear hall hi1 hi2
        subst ge4
        have ho2 := ho
        simp only [List.getElem?_toArray, List.getElem?_cons_zero, List.getElem?_cons_succ] at ho2
        have ho3 := Option.some.inj ho2; clear ho2; subst ho3
        obtain ⟨ba0, bb0⟩ := fb0.read; have bl0 := fb0.lt
        obtain ⟨ba1, bb1⟩ := fb1.read; have bl1 := fb1.lt
        obtain ⟨ba2, bb2⟩ := fb2.read; have bl2 := fb2.lt
        obtain ⟨ba3, bb3⟩ := fb3.read; have bl3 := fb3.lt
        simp only [Act.put, List.setIfInBounds_toArray, List.set_cons_zero, List.set_cons_succ]
        simp only [cond_true, cond_false]
        refine inv_op ho (by kernel_rfl) (fun K hK => ?_)
        clear ho
        go_simp
        refine hK.out _ _ ?_
        unfold IntegI
        refine ⟨gg0, gg1, gg2, gg3, true, gg5, gg6, gg7, gg8, gg9, gg10, gg11, gg12, gg13, gg14, gg15, gg16, gg17, gg18, gg19, gg20, gg21, gg22, gg23, gg24, gg25, rfl, by simp only [Act.put, List.setIfInBounds_toArray, List.set_cons_zero, List.set_cons_succ, cond_true, cond_false, Bool.cond_self], ?_, ?_, ?_, ?_, ?_, ?_, ?_, ?_, ?_, ?_, ?_, ?_⟩
        · exact fb0
        · exact fb1
        · exact fb2
        · exact fb3
        · exact fb4
        · exact fB
        · exact fL
        · exact exE
        · exact exP
        · exact h7_25
        · exact h14_25
        · exact h22_25
      · have ge5 : gg5 = false := hi2
        have ge4 : gg4 = true := inv_dep ho hall 4 (by kernel_rfl)
        clear hall hi1 hi2
        subst ge5 ge4
        have ho2 := ho
        simp only [List.getElem?_toArray, List.getElem?_cons_zero, List.getElem?_cons_succ] at ho2
        have ho3 := Option.some.inj ho2; clear ho2; subst ho3
        obtain ⟨ba0, bb0⟩ := fb0.read; have bl0 := fb0.lt
        obtain ⟨ba1, bb1⟩ := fb1.read; have bl1 := fb1.lt
        obtain ⟨ba2, bb2⟩ := fb2.read; have bl2 := fb2.lt
        obtain ⟨ba3, bb3⟩ := fb3.read; have bl3 := fb3.lt
        simp only [Act.put, List.setIfInBounds_toArray, List.set_cons_zero, List.set_cons_succ]
        simp only [cond_true, cond_false]
        refine inv_op ho (by kernel_rfl) (fun K hK => ?_)
        clear ho
        go_simp
        refine hK.out _ _ ?_
        unfold IntegI
        refine ⟨gg0, gg1, gg2, gg3, true, true, gg6, gg7, gg8, gg9, gg10, gg11, gg12, gg13, gg14, gg15, gg16, gg17, gg18, gg19, gg20, gg21, gg22, gg23, gg24, gg25, rfl, by simp only [Act.put, List.setIfInBounds_toArray, List.set_cons_zero, List.set_cons_succ, cond_true, cond_false, Bool.cond_self], ?_, ?_, ?_, ?_, ?_, ?_, ?_, ?_, ?_, ?_, ?_, ?_⟩
        · exact fb0
        · exact fb1
        · exact fb2
        · exact fb3
        · exact fb4
        · exact fB
        · exact fL
        · exact exE
        · exact exP
        · exact h7_25
        · exact h14_25
        · exact h22_25
      · have ge6 : gg6 = false := hi2
        have ge3 : gg3 = true := inv_dep ho hall 3 (by kernel_rfl)
        have ge5 : gg5 = true := inv_dep ho hall 5 (by kernel_rfl)
        clear hall hi1 hi2
        subst ge6 ge3 ge5
        have ho2 := ho
        simp only [List.getElem?_toArray, List.getElem?_cons_zero, List.getElem?_cons_succ] at ho2
        have ho3 := Option.some.inj ho2; clear ho2; subst ho3
        obtain ⟨ba0, bb0⟩ := fb0.read; have bl0 := fb0.lt
        obtain ⟨ba1, bb1⟩ := fb1.read; have bl1 := fb1.lt
        obtain ⟨ba2, bb2⟩ := fb2.read; have bl2 := fb2.lt
        obtain ⟨ba3, bb3⟩ := fb3.read; have bl3 := fb3.lt
        simp only [Act.put, List.setIfInBounds_toArray, List.set_cons_zero, List.set_cons_succ]
        simp only [cond_true, cond_false]
        refine inv_op ho (by kernel_rfl) (fun K hK => ?_)
        clear ho
        go_simp
        refine hK.out _ _ ?_
        unfold IntegI
        refine ⟨gg0, gg1, gg2, true, gg4, true, true, gg7, gg8, gg9, gg10, gg11, gg12, gg13, gg14, gg15, gg16, gg17, gg18, gg19, gg20, gg21, gg22, gg23, gg24, gg25, rfl, by simp only [Act.put, List.setIfInBounds_toArray, List.set_cons_zero, List.set_cons_succ, cond_true, cond_false, Bool.cond_self], ?_, ?_, ?_, ?_, ?_, ?_, ?_, ?_, ?_, ?_, ?_, ?_⟩
        · exact fb0
        · exact fb1
        · exact fb2
        · exact fb3
        · exact fb4
        · exact fB
        · exact fL
        · exact exE
        · exact exP
        · exact h7_25
        · exact h14_25
        · exact h22_25
      · have ge7 : gg7 = false := hi2
        have ge6 : gg6 = true := inv_dep ho hall 6 (by kernel_rfl)
        clear hall hi1 hi2
        subst ge7 ge6
        have ho2 := ho
        simp only [List.getElem?_toArray, List.getElem?_cons_zero, List.getElem?_cons_succ] at ho2
        have ho3 := Option.some.inj ho2; clear ho2; subst ho3
        obtain ⟨ba0, bb0⟩ := fb0.read; have bl0 := fb0.lt
        obtain ⟨ba1, bb1⟩ := fb1.read; have bl1 := fb1.lt
        obtain ⟨ba2, bb2⟩ := fb2.read; have bl2 := fb2.lt
        obtain ⟨ba3, bb3⟩ := fb3.read; have bl3 := fb3.lt
        obtain rfl : gg25 = false := by cases gg25; rfl; exact Bool.noConfusion (h7_25 rfl)
        simp only [cond_true, cond_false] at fb4
        obtain ⟨ba9, bb9⟩ := fb4.read
        have hu := HU1.out
        simp only [Act.put, List.setIfInBounds_toArray, List.set_cons_zero, List.set_cons_succ]
        simp only [cond_true, cond_false]
        refine inv_op ho (by kernel_rfl) (fun K hK => ?_)
        clear ho
        go_simp
        refine hK.out _ _ ?_
        unfold IntegI
        refine ⟨gg0, gg1, gg2, gg3, gg4, gg5, true, true, gg8, gg9, gg10, gg11, gg12, gg13, gg14, gg15, gg16, gg17, gg18, gg19, gg20, gg21, gg22, gg23, gg24, false, rfl, by simp only [Act.put, List.setIfInBounds_toArray, List.set_cons_zero, List.set_cons_succ, cond_true, cond_false, Bool.cond_self], ?_, ?_, ?_, ?_, ?_, ?_, ?_, ?_, ?_, ?_, ?_, ?_⟩
        · exact fb0
        · exact fb1
        · exact fb2
        · exact fb3
        · exact fb4
        · exact fB
        · exact fL
        · exact exE
        · exact exP
        · intro _; rfl
        · intro h; cases h
        · intro h; cases h
      · have ge8 : gg8 = false := hi2
        have ge2 : gg2 = true := inv_dep ho hall 2 (by kernel_rfl)
        have ge7 : gg7 = true := inv_dep ho hall 7 (by kernel_rfl)
        clear hall hi1 hi2
        subst ge8 ge2 ge7
        have ho2 := ho
        simp only [List.getElem?_toArray, List.getElem?_cons_zero, List.getElem?_cons_succ] at ho2
        have ho3 := Option.some.inj ho2; clear ho2; subst ho3
        obtain ⟨ba0, bb0⟩ := fb0.read; have bl0 := fb0.lt
        obtain ⟨ba1, bb1⟩ := fb1.read; have bl1 := fb1.lt
        obtain ⟨ba2, bb2⟩ := fb2.read; have bl2 := fb2.lt
        obtain ⟨ba3, bb3⟩ := fb3.read; have bl3 := fb3.lt
        simp only [Act.put, List.setIfInBounds_toArray, List.set_cons_zero, List.set_cons_succ]
        simp only [cond_true, cond_false]
        refine inv_op ho (by kernel_rfl) (fun K hK => ?_)
        clear ho
        go_simp
        refine hK.out _ _ ?_
        unfold IntegI
        refine ⟨gg0, gg1, true, gg3, gg4, gg5, gg6, true, true, gg9, gg10, gg11, gg12, gg13, gg14, gg15, gg16, gg17, gg18, gg19, gg20, gg21, gg22, gg23, gg24, gg25, rfl, by simp only [Act.put, List.setIfInBounds_toArray, List.set_cons_zero, List.set_cons_succ, cond_true, cond_false, Bool.cond_self], ?_, ?_, ?_, ?_, ?_, ?_, ?_, ?_, ?_, ?_, ?_, ?_⟩
        · exact fb0
        · exact fb1
        · exact fb2
        · exact fb3
        · exact fb4
        · exact fB
        · exact fL
        · exact exE
        · exact exP
        · intro _; rfl
        · exact h14_25
        · exact h22_25
      · have ge9 : gg9 = false := hi2
        clear hall hi1 hi2
        subst ge9
        have ho2 := ho
        simp only [List.getElem?_toArray, List.getElem?_cons_zero, List.getElem?_cons_succ] at ho2
        have ho3 := Option.some.inj ho2; clear ho2; subst ho3
        obtain ⟨ba0, bb0⟩ := fb0.read; have bl0 := fb0.lt
        obtain ⟨ba1, bb1⟩ := fb1.read; have bl1 := fb1.lt
        obtain ⟨ba2, bb2⟩ := fb2.read; have bl2 := fb2.lt
        obtain ⟨ba3, bb3⟩ := fb3.read; have bl3 := fb3.lt
        simp only [Act.put, List.setIfInBounds_toArray, List.set_cons_zero, List.set_cons_succ]
        simp only [cond_true, cond_false]
        refine inv_op ho (by kernel_rfl) (fun K hK => ?_)
        clear ho
        go_simp
        refine hK.out _ _ ?_
        unfold IntegI
        refine ⟨gg0, gg1, gg2, gg3, gg4, gg5, gg6, gg7, gg8, true, gg10, gg11, gg12, gg13, gg14, gg15, gg16, gg17, gg18, gg19, gg20, gg21, gg22, gg23, gg24, gg25, rfl, by simp only [Act.put, List.setIfInBounds_toArray, List.set_cons_zero, List.set_cons_succ, cond_true, cond_false, Bool.cond_self], ?_, ?_, ?_, ?_, ?_, ?_, ?_, ?_, ?_, ?_, ?_, ?_⟩
        · exact fb0
        · exact fb1
        · exact fb2
        · exact fb3
        · exact fb4
        · exact fB
        · exact fL
        · exact exE
        · exact exP
        · exact h7_25
        · exact h14_25
        · exact h22_25
      · have ge10 : gg10 = false := hi2
        clear hall hi1 hi2
        subst ge10
        have ho2 := ho
        simp only [List.getElem?_toArray, List.getElem?_cons_zero, List.getElem?_cons_succ] at ho2
        have ho3 := Option.some.inj ho2; clear ho2; subst ho3
        obtain ⟨ba0, bb0⟩ := fb0.read; have bl0 := fb0.lt
        obtain ⟨ba1, bb1⟩ := fb1.read; have bl1 := fb1.lt
        obtain ⟨ba2, bb2⟩ := fb2.read; have bl2 := fb2.lt
        obtain ⟨ba3, bb3⟩ := fb3.read; have bl3 := fb3.lt
        simp only [Act.put, List.setIfInBounds_toArray, List.set_cons_zero, List.set_cons_succ]
        simp only [cond_true, cond_false]
        refine inv_op ho (by kernel_rfl) (fun K hK => ?_)
        clear ho
        go_simp
        refine hK.out _ _ ?_
        unfold IntegI
        refine ⟨gg0, gg1, gg2, gg3, gg4, gg5, gg6, gg7, gg8, gg9, true, gg11, gg12, gg13, gg14, gg15, gg16, gg17, gg18, gg19, gg20, gg21, gg22, gg23, gg24, gg25, rfl, by simp only [Act.put, List.setIfInBounds_toArray, List.set_cons_zero, List.set_cons_succ, cond_true, cond_false, Bool.cond_self], ?_, ?_, ?_, ?_, ?_, ?_, ?_, ?_, ?_, ?_, ?_, ?_⟩
        · exact fb0
        · exact fb1
        · exact fb2
        · exact fb3
        · exact fb4
        · exact fB
        · exact fL
        · exact exE
        · exact exP
        · exact h7_25
        · exact h14_25
        · exact h22_25
      · have ge11 : gg11 = false := hi2
        clear hall hi1 hi2
        subst ge11
        have ho2 := ho
        simp only [List.getElem?_toArray, List.getElem?_cons_zero, List.getElem?_cons_succ] at ho2
        have ho3 := Option.some.inj ho2; clear ho2; subst ho3
        obtain ⟨ba0, bb0⟩ := fb0.read; have bl0 := fb0.lt
        obtain ⟨ba1, bb1⟩ := fb1.read; have bl1 := fb1.lt
        obtain ⟨ba2, bb2⟩ := fb2.read; have bl2 := fb2.lt
        obtain ⟨ba3, bb3⟩ := fb3.read; have bl3 := fb3.lt
        simp only [Act.put, List.setIfInBounds_toArray, List.set_cons_zero, List.set_cons_succ]
        simp only [cond_true, cond_false]
        refine inv_op ho (by kernel_rfl) (fun K hK => ?_)
        clear ho
        go_simp
        refine hK.out _ _ ?_
        unfold IntegI
        refine ⟨gg0, gg1, gg2, gg3, gg4, gg5, gg6, gg7, gg8, gg9, gg10, true, gg12, gg13, gg14, gg15, gg16, gg17, gg18, gg19, gg20, gg21, gg22, gg23, gg24, gg25, rfl, by simp only [Act.put, List.setIfInBounds_toArray, List.set_cons_zero, List.set_cons_succ, cond_true, cond_false, Bool.cond_self], ?_, ?_, ?_, ?_, ?_, ?_, ?_, ?_, ?_, ?_, ?_, ?_⟩
        · exact fb0
        · exact fb1
        · exact fb2
        · exact fb3
        · exact fb4
        · exact fB
        · exact fL
        · exact exE
        · exact exP
        · exact h7_25
        · exact h14_25
        · exact h22_25
      · have ge12 : gg12 = false := hi2
        have ge10 : gg10 = true := inv_dep ho hall 10 (by kernel_rfl)
        have ge11 : gg11 = true := inv_dep ho hall 11 (by kernel_rfl)
        clear hall hi1 hi2
        subst ge12 ge10 ge11
        have ho2 := ho
        simp only [List.getElem?_toArray, List.getElem?_cons_zero, List.getElem?_cons_succ] at ho2
        have ho3 := Option.some.inj ho2; clear ho2; subst ho3
        obtain ⟨ba0, bb0⟩ := fb0.read; have bl0 := fb0.lt
        obtain ⟨ba1, bb1⟩ := fb1.read; have bl1 := fb1.lt
        obtain ⟨ba2, bb2⟩ := fb2.read; have bl2 := fb2.lt
        obtain ⟨ba3, bb3⟩ := fb3.read; have bl3 := fb3.lt
        simp only [Act.put, List.setIfInBounds_toArray, List.set_cons_zero, List.set_cons_succ]
        simp only [cond_true, cond_false]
        refine inv_op ho (by kernel_rfl) (fun K hK => ?_)
        clear ho
        go_simp
        refine hK.out _ _ ?_
        unfold IntegI
        refine ⟨gg0, gg1, gg2, gg3, gg4, gg5, gg6, gg7, gg8, gg9, true, true, true, gg13, gg14, gg15, gg16, gg17, gg18, gg19, gg20, gg21, gg22, gg23, gg24, gg25, rfl, by simp only [Act.put, List.setIfInBounds_toArray, List.set_cons_zero, List.set_cons_succ, cond_true, cond_false, Bool.cond_self], ?_, ?_, ?_, ?_, ?_, ?_, ?_, ?_, ?_, ?_, ?_, ?_⟩
        · exact fb0
        · exact fb1
        · exact fb2
        · exact fb3
        · exact fb4
        · exact fB
        · exact fL
        · exact exE
        · exact exP
        · exact h7_25
        · exact h14_25
        · exact h22_25
      · have ge13 : gg13 = false := hi2
        have ge9 : gg9 = true := inv_dep ho hall 9 (by kernel_rfl)
        have ge12 : gg12 = true := inv_dep ho hall 12 (by kernel_rfl)
        clear hall hi1 hi2
        subst ge13 ge9 ge12
        have ho2 := ho
        simp only [List.getElem?_toArray, List.getElem?_cons_zero, List.getElem?_cons_succ] at ho2
        have ho3 := Option.some.inj ho2; clear ho2; subst ho3
        obtain ⟨ba0, bb0⟩ := fb0.read; have bl0 := fb0.lt
        obtain ⟨ba1, bb1⟩ := fb1.read; have bl1 := fb1.lt
        obtain ⟨ba2, bb2⟩ := fb2.read; have bl2 := fb2.lt
        obtain ⟨ba3, bb3⟩ := fb3.read; have bl3 := fb3.lt
        simp only [Act.put, List.setIfInBounds_toArray, List.set_cons_zero, List.set_cons_succ]
        simp only [cond_true, cond_false]
        refine inv_op ho (by kernel_rfl) (fun K hK => ?_)
        clear ho
        go_simp
        refine hK.out _ _ ?_
        unfold IntegI
        refine ⟨gg0, gg1, gg2, gg3, gg4, gg5, gg6, gg7, gg8, true, gg10, gg11, true, true, gg14, gg15, gg16, gg17, gg18, gg19, gg20, gg21, gg22, gg23, gg24, gg25, rfl, by simp only [Act.put, List.setIfInBounds_toArray, List.set_cons_zero, List.set_cons_succ, cond_true, cond_false, Bool.cond_self], ?_, ?_, ?_, ?_, ?_, ?_, ?_, ?_, ?_, ?_, ?_, ?_⟩
        · exact fb0
        · exact fb1
        · exact fb2
        · exact fb3
        · exact fb4
        · exact fB
        · exact fL
        · exact exE
        · exact exP
        · exact h7_25
        · exact h14_25
        · exact h22_25
      · have ge14 : gg14 = false := hi2
        have ge13 : gg13 = true := inv_dep ho hall 13 (by kernel_rfl)
        clear hall hi1 hi2
        subst ge14 ge13
        have ho2 := ho
        simp only [List.getElem?_toArray, List.getElem?_cons_zero, List.getElem?_cons_succ] at ho2
        have ho3 := Option.some.inj ho2; clear ho2; subst ho3
        obtain ⟨ba0, bb0⟩ := fb0.read; have bl0 := fb0.lt
        obtain ⟨ba1, bb1⟩ := fb1.read; have bl1 := fb1.lt
        obtain ⟨ba2, bb2⟩ := fb2.read; have bl2 := fb2.lt
        obtain ⟨ba3, bb3⟩ := fb3.read; have bl3 := fb3.lt
        obtain rfl : gg25 = false := by cases gg25; rfl; exact Bool.noConfusion (h14_25 rfl)
        simp only [cond_true, cond_false] at fb4
        obtain ⟨ba9, bb9⟩ := fb4.read
        have hu := HU2.out
        simp only [Act.put, List.setIfInBounds_toArray, List.set_cons_zero, List.set_cons_succ]
        simp only [cond_true, cond_false]
        refine inv_op ho (by kernel_rfl) (fun K hK => ?_)
        clear ho
        go_simp
        refine hK.out _ _ ?_
        unfold IntegI
        refine ⟨gg0, gg1, gg2, gg3, gg4, gg5, gg6, gg7, gg8, gg9, gg10, gg11, gg12, true, true, gg15, gg16, gg17, gg18, gg19, gg20, gg21, gg22, gg23, gg24, false, rfl, by simp only [Act.put, List.setIfInBounds_toArray, List.set_cons_zero, List.set_cons_succ, cond_true, cond_false, Bool.cond_self], ?_, ?_, ?_, ?_, ?_, ?_, ?_, ?_, ?_, ?_, ?_, ?_⟩
        · exact fb0
        · exact fb1
        · exact fb2
        · exact fb3
        · exact fb4
        · exact fB
        · exact fL
        · exact exE
        · exact exP
        · intro h; cases h
        · intro _; rfl
        · intro h; cases h
      · have ge15 : gg15 = false := hi2
        have ge8 : gg8 = true := inv_dep ho hall 8 (by kernel_rfl)
        have ge14 : gg14 = true := inv_dep ho hall 14 (by kernel_rfl)
        clear hall hi1 hi2
        subst ge15 ge8 ge14
        have ho2 := ho
        simp only [List.getElem?_toArray, List.getElem?_cons_zero, List.getElem?_cons_succ] at ho2
        have ho3 := Option.some.inj ho2; clear ho2; subst ho3
        obtain ⟨ba0, bb0⟩ := fb0.read; have bl0 := fb0.lt
        obtain ⟨ba1, bb1⟩ := fb1.read; have bl1 := fb1.lt
        obtain ⟨ba2, bb2⟩ := fb2.read; have bl2 := fb2.lt
        obtain ⟨ba3, bb3⟩ := fb3.read; have bl3 := fb3.lt
        simp only [Act.put, List.setIfInBounds_toArray, List.set_cons_zero, List.set_cons_succ]
        simp only [cond_true, cond_false]
        refine inv_op ho (by kernel_rfl) (fun K hK => ?_)
        clear ho
        go_simp
        refine hK.out _ _ ?_
        unfold IntegI
        refine ⟨gg0, gg1, gg2, gg3, gg4, gg5, gg6, gg7, true, gg9, gg10, gg11, gg12, gg13, true, true, gg16, gg17, gg18, gg19, gg20, gg21, gg22, gg23, gg24, gg25, rfl, by simp only [Act.put, List.setIfInBounds_toArray, List.set_cons_zero, List.set_cons_succ, cond_true, cond_false, Bool.cond_self], ?_, ?_, ?_, ?_, ?_, ?_, ?_, ?_, ?_, ?_, ?_, ?_⟩
        · exact fb0
        · exact fb1
        · exact fb2
        · exact fb3
        · exact fb4
        · exact fB
        · exact fL
        · exact exE
        · exact exP
        · exact h7_25
        · intro _; rfl
        · exact h22_25
      · have ge16 : gg16 = false := hi2
        clear hall hi1 hi2
        subst ge16
        have ho2 := ho
        simp only [List.getElem?_toArray, List.getElem?_cons_zero, List.getElem?_cons_succ] at ho2
        have ho3 := Option.some.inj ho2; clear ho2; subst ho3
        obtain ⟨ba0, bb0⟩ := fb0.read; have bl0 := fb0.lt
        obtain ⟨ba1, bb1⟩ := fb1.read; have bl1 := fb1.lt
        obtain ⟨ba2, bb2⟩ := fb2.read; have bl2 := fb2.lt
        obtain ⟨ba3, bb3⟩ := fb3.read; have bl3 := fb3.lt
        simp only [Act.put, List.setIfInBounds_toArray, List.set_cons_zero, List.set_cons_succ]
        simp only [cond_true, cond_false]
        refine inv_op ho (by kernel_rfl) (fun K hK => ?_)
        clear ho
        go_simp
        refine hK.out _ _ ?_
        unfold IntegI
        refine ⟨gg0, gg1, gg2, gg3, gg4, gg5, gg6, gg7, gg8, gg9, gg10, gg11, gg12, gg13, gg14, gg15, true, gg17, gg18, gg19, gg20, gg21, gg22, gg23, gg24, gg25, rfl, by simp only [Act.put, List.setIfInBounds_toArray, List.set_cons_zero, List.set_cons_succ, cond_true, cond_false, Bool.cond_self], ?_, ?_, ?_, ?_, ?_, ?_, ?_, ?_, ?_, ?_, ?_, ?_⟩
        · exact fb0
        · exact fb1
        · exact fb2
        · exact fb3
        · exact fb4
        · exact fB
        · exact fL
        · exact exE
        · exact exP
        · exact h7_25
        · exact h14_25
        · exact h22_25
      · have ge17 : gg17 = false := hi2
        clear hall hi1 hi2
        subst ge17
        have ho2 := ho
        simp only [List.getElem?_toArray, List.getElem?_cons_zero, List.getElem?_cons_succ] at ho2
        have ho3 := Option.some.inj ho2; clear ho2; subst ho3
        obtain ⟨ba0, bb0⟩ := fb0.read; have bl0 := fb0.lt
        obtain ⟨ba1, bb1⟩ := fb1.read; have bl1 := fb1.lt
        obtain ⟨ba2, bb2⟩ := fb2.read; have bl2 := fb2.lt
        obtain ⟨ba3, bb3⟩ := fb3.read; have bl3 := fb3.lt
        simp only [Act.put, List.setIfInBounds_toArray, List.set_cons_zero, List.set_cons_succ]
        simp only [cond_true, cond_false]
        refine inv_op ho (by kernel_rfl) (fun K hK => ?_)
        clear ho
        go_simp
        refine hK.out _ _ ?_
        unfold IntegI
        refine ⟨gg0, gg1, gg2, gg3, gg4, gg5, gg6, gg7, gg8, gg9, gg10, gg11, gg12, gg13, gg14, gg15, gg16, true, gg18, gg19, gg20, gg21, gg22, gg23, gg24, gg25, rfl, by simp only [Act.put, List.setIfInBounds_toArray, List.set_cons_zero, List.set_cons_succ, cond_true, cond_false, Bool.cond_self], ?_, ?_, ?_, ?_, ?_, ?_, ?_, ?_, ?_, ?_, ?_, ?_⟩
        · exact fb0
        · exact fb1
        · exact fb2
        · exact fb3
        · exact fb4
        · exact fB
        · exact fL
        · exact exE
        · exact exP
        · exact h7_25
        · exact h14_25
        · exact h22_25
      · have ge18 : gg18 = false := hi2
        clear hall hi1 hi2
        subst ge18
        have ho2 := ho
        simp only [List.getElem?_toArray, List.getElem?_cons_zero, List.getElem?_cons_succ] at ho2
        have ho3 := Option.some.inj ho2; clear ho2; subst ho3
        obtain ⟨ba0, bb0⟩ := fb0.read; have bl0 := fb0.lt
        obtain ⟨ba1, bb1⟩ := fb1.read; have bl1 := fb1.lt
        obtain ⟨ba2, bb2⟩ := fb2.read; have bl2 := fb2.lt
        obtain ⟨ba3, bb3⟩ := fb3.read; have bl3 := fb3.lt
        simp only [Act.put, List.setIfInBounds_toArray, List.set_cons_zero, List.set_cons_succ]
        simp only [cond_true, cond_false]
        refine inv_op ho (by kernel_rfl) (fun K hK => ?_)
        clear ho
        go_simp
        refine hK.out _ _ ?_
        unfold IntegI
        refine ⟨gg0, gg1, gg2, gg3, gg4, gg5, gg6, gg7, gg8, gg9, gg10, gg11, gg12, gg13, gg14, gg15, gg16, gg17, true, gg19, gg20, gg21, gg22, gg23, gg24, gg25, rfl, by simp only [Act.put, List.setIfInBounds_toArray, List.set_cons_zero, List.set_cons_succ, cond_true, cond_false, Bool.cond_self], ?_, ?_, ?_, ?_, ?_, ?_, ?_, ?_, ?_, ?_, ?_, ?_⟩
        · exact fb0
        · exact fb1
        · exact fb2
        · exact fb3
        · exact fb4
        · exact fB
        · exact fL
        · exact exE
        · exact exP
        · exact h7_25
        · exact h14_25
        · exact h22_25
      · have ge19 : gg19 = false := hi2
        have ge17 : gg17 = true := inv_dep ho hall 17 (by kernel_rfl)
        have ge18 : gg18 = true := inv_dep ho hall 18 (by kernel_rfl)
        clear hall hi1 hi2
        subst ge19 ge17 ge18
        have ho2 := ho
        simp only [List.getElem?_toArray, List.getElem?_cons_zero, List.getElem?_cons_succ] at ho2
        have ho3 := Option.some.inj ho2; clear ho2; subst ho3
        obtain ⟨ba0, bb0⟩ := fb0.read; have bl0 := fb0.lt
        obtain ⟨ba1, bb1⟩ := fb1.read; have bl1 := fb1.lt
        obtain ⟨ba2, bb2⟩ := fb2.read; have bl2 := fb2.lt
        obtain ⟨ba3, bb3⟩ := fb3.read; have bl3 := fb3.lt
        simp only [Act.put, List.setIfInBounds_toArray, List.set_cons_zero, List.set_cons_succ]
        simp only [cond_true, cond_false]
        refine inv_op ho (by kernel_rfl) (fun K hK => ?_)
        clear ho
        go_simp
        refine hK.out _ _ ?_
        unfold IntegI
        refine ⟨gg0, gg1, gg2, gg3, gg4, gg5, gg6, gg7, gg8, gg9, gg10, gg11, gg12, gg13, gg14, gg15, gg16, true, true, true, gg20, gg21, gg22, gg23, gg24, gg25, rfl, by simp only [Act.put, List.setIfInBounds_toArray, List.set_cons_zero, List.set_cons_succ, cond_true, cond_false, Bool.cond_self], ?_, ?_, ?_, ?_, ?_, ?_, ?_, ?_, ?_, ?_, ?_, ?_⟩
        · exact fb0
        · exact fb1
        · exact fb2
        · exact fb3
        · exact fb4
        · exact fB
        · exact fL
        · exact exE
        · exact exP
        · exact h7_25
        · exact h14_25
        · exact h22_25
      · have ge20 : gg20 = false := hi2
        have ge19 : gg19 = true := inv_dep ho hall 19 (by kernel_rfl)
        clear hall hi1 hi2
        subst ge20 ge19
        have ho2 := ho
        simp only [List.getElem?_toArray, List.getElem?_cons_zero, List.getElem?_cons_succ] at ho2
        have ho3 := Option.some.inj ho2; clear ho2; subst ho3
        obtain ⟨ba0, bb0⟩ := fb0.read; have bl0 := fb0.lt
        obtain ⟨ba1, bb1⟩ := fb1.read; have bl1 := fb1.lt
        obtain ⟨ba2, bb2⟩ := fb2.read; have bl2 := fb2.lt
        obtain ⟨ba3, bb3⟩ := fb3.read; have bl3 := fb3.lt
        simp only [Act.put, List.setIfInBounds_toArray, List.set_cons_zero, List.set_cons_succ]
        simp only [cond_true, cond_false]
        refine inv_op ho (by kernel_rfl) (fun K hK => ?_)
        clear ho
        go_simp
        refine hK.out _ _ ?_
        unfold IntegI
        refine ⟨gg0, gg1, gg2, gg3, gg4, gg5, gg6, gg7, gg8, gg9, gg10, gg11, gg12, gg13, gg14, gg15, gg16, gg17, gg18, true, true, gg21, gg22, gg23, gg24, gg25, rfl, by simp only [Act.put, List.setIfInBounds_toArray, List.set_cons_zero, List.set_cons_succ, cond_true, cond_false, Bool.cond_self], ?_, ?_, ?_, ?_, ?_, ?_, ?_, ?_, ?_, ?_, ?_, ?_⟩
        · exact fb0
        · exact fb1
        · exact fb2
        · exact fb3
        · exact fb4
        · exact fB
        · exact fL
        · exact exE
        · exact exP
        · exact h7_25
        · exact h14_25
        · exact h22_25
      · have ge21 : gg21 = false := hi2
        have ge16 : gg16 = true := inv_dep ho hall 16 (by kernel_rfl)
        have ge20 : gg20 = true := inv_dep ho hall 20 (by kernel_rfl)
        clear hall hi1 hi2
        subst ge21 ge16 ge20
        have ho2 := ho
        simp only [List.getElem?_toArray, List.getElem?_cons_zero, List.getElem?_cons_succ] at ho2
        have ho3 := Option.some.inj ho2; clear ho2; subst ho3
        obtain ⟨ba0, bb0⟩ := fb0.read; have bl0 := fb0.lt
        obtain ⟨ba1, bb1⟩ := fb1.read; have bl1 := fb1.lt
        obtain ⟨ba2, bb2⟩ := fb2.read; have bl2 := fb2.lt
        obtain ⟨ba3, bb3⟩ := fb3.read; have bl3 := fb3.lt
        simp only [Act.put, List.setIfInBounds_toArray, List.set_cons_zero, List.set_cons_succ]
        simp only [cond_true, cond_false]
        refine inv_op ho (by kernel_rfl) (fun K hK => ?_)
        clear ho
        go_simp
        refine hK.out _ _ ?_
        unfold IntegI
        refine ⟨gg0, gg1, gg2, gg3, gg4, gg5, gg6, gg7, gg8, gg9, gg10, gg11, gg12, gg13, gg14, gg15, true, gg17, gg18, gg19, true, true, gg22, gg23, gg24, gg25, rfl, by simp only [Act.put, List.setIfInBounds_toArray, List.set_cons_zero, List.set_cons_succ, cond_true, cond_false, Bool.cond_self], ?_, ?_, ?_, ?_, ?_, ?_, ?_, ?_, ?_, ?_, ?_, ?_⟩
        · exact fb0
        · exact fb1
        · exact fb2
        · exact fb3
        · exact fb4
        · exact fB
        · exact fL
        · exact exE
        · exact exP
        · exact h7_25
        · exact h14_25
        · exact h22_25
      · have ge22 : gg22 = false := hi2
        have ge21 : gg21 = true := inv_dep ho hall 21 (by kernel_rfl)
        clear hall hi1 hi2
        subst ge22 ge21
        have ho2 := ho
        simp only [List.getElem?_toArray, List.getElem?_cons_zero, List.getElem?_cons_succ] at ho2
        have ho3 := Option.some.inj ho2; clear ho2; subst ho3
        obtain ⟨ba0, bb0⟩ := fb0.read; have bl0 := fb0.lt
        obtain ⟨ba1, bb1⟩ := fb1.read; have bl1 := fb1.lt
        obtain ⟨ba2, bb2⟩ := fb2.read; have bl2 := fb2.lt
        obtain ⟨ba3, bb3⟩ := fb3.read; have bl3 := fb3.lt
        obtain rfl : gg25 = false := by cases gg25; rfl; exact Bool.noConfusion (h22_25 rfl)
        simp only [cond_true, cond_false] at fb4
        obtain ⟨ba9, bb9⟩ := fb4.read
        have hu := HU3.out
        simp only [Act.put, List.setIfInBounds_toArray, List.set_cons_zero, List.set_cons_succ]
        simp only [cond_true, cond_false]
        refine inv_op ho (by kernel_rfl) (fun K hK => ?_)
        clear ho
        go_simp
        refine hK.out _ _ ?_
        unfold IntegI
        refine ⟨gg0, gg1, gg2, gg3, gg4, gg5, gg6, gg7, gg8, gg9, gg10, gg11, gg12, gg13, gg14, gg15, gg16, gg17, gg18, gg19, gg20, true, true, gg23, gg24, false, rfl, by simp only [Act.put, List.setIfInBounds_toArray, List.set_cons_zero, List.set_cons_succ, cond_true, cond_false, Bool.cond_self], ?_, ?_, ?_, ?_, ?_, ?_, ?_, ?_, ?_, ?_, ?_, ?_⟩
        · exact fb0
        · exact fb1
        · exact fb2
        · exact fb3
        · exact fb4
        · exact fB
        · exact fL
        · exact exE
        · exact exP
        · intro h; cases h
        · intro h; cases h
        · intro _; rfl
      · have ge23 : gg23 = false := hi2
        have ge15 : gg15 = true := inv_dep ho hall 15 (by kernel_rfl)
        have ge22 : gg22 = true := inv_dep ho hall 22 (by kernel_rfl)
        clear hall hi1 hi2
        subst ge23 ge15 ge22
        have ho2 := ho
        simp only [List.getElem?_toArray, List.getElem?_cons_zero, List.getElem?_cons_succ] at ho2
        have ho3 := Option.some.inj ho2; clear ho2; subst ho3
        obtain ⟨ba0, bb0⟩ := fb0.read; have bl0 := fb0.lt
        obtain ⟨ba1, bb1⟩ := fb1.read; have bl1 := fb1.lt
        obtain ⟨ba2, bb2⟩ := fb2.read; have bl2 := fb2.lt
        obtain ⟨ba3, bb3⟩ := fb3.read; have bl3 := fb3.lt
        simp only [Act.put, List.setIfInBounds_toArray, List.set_cons_zero, List.set_cons_succ]
        simp only [cond_true, cond_false]
        refine inv_op ho (by kernel_rfl) (fun K hK => ?_)
        clear ho
        go_simp
        refine hK.out _ _ ?_
        unfold IntegI
        refine ⟨gg0, gg1, gg2, gg3, gg4, gg5, gg6, gg7, gg8, gg9, gg10, gg11, gg12, gg13, gg14, true, gg16, gg17, gg18, gg19, gg20, gg21, true, true, gg24, gg25, rfl, by simp only [Act.put, List.setIfInBounds_toArray, List.set_cons_zero, List.set_cons_succ, cond_true, cond_false, Bool.cond_self], ?_, ?_, ?_, ?_, ?_, ?_, ?_, ?_, ?_, ?_, ?_, ?_⟩
        · exact fb0
        · exact fb1
        · exact fb2
        · exact fb3
        · exact fb4
        · exact fB
        · exact fL
        · exact exE
        · exact exP
        · exact h7_25
        · exact h14_25
        · intro _; rfl
      · have ge24 : gg24 = false := hi2
        have ge0 : gg0 = true := inv_dep ho hall 0 (by kernel_rfl)
        have ge1 : gg1 = true := inv_dep ho hall 1 (by kernel_rfl)
        clear hall hi1 hi2
        subst ge24 ge0 ge1
        have ho2 := ho
        simp only [List.getElem?_toArray, List.getElem?_cons_zero, List.getElem?_cons_succ] at ho2
        have ho3 := Option.some.inj ho2; clear ho2; subst ho3
        obtain ⟨ba0, bb0⟩ := fb0.read; have bl0 := fb0.lt
        obtain ⟨ba1, bb1⟩ := fb1.read; have bl1 := fb1.lt
        obtain ⟨ba2, bb2⟩ := fb2.read; have bl2 := fb2.lt
        obtain ⟨ba3, bb3⟩ := fb3.read; have bl3 := fb3.lt
        simp only [Act.put, List.setIfInBounds_toArray, List.set_cons_zero, List.set_cons_succ]
        simp only [cond_true, cond_false]
        refine inv_op ho (by kernel_rfl) (fun K hK => ?_)
        clear ho
        go_simp
        refine hK.out _ _ ?_
        unfold IntegI
        refine ⟨true, true, gg2, gg3, gg4, gg5, gg6, gg7, gg8, gg9, gg10, gg11, gg12, gg13, gg14, gg15, gg16, gg17, gg18, gg19, gg20, gg21, gg22, gg23, true, gg25, rfl, by simp only [Act.put, List.setIfInBounds_toArray, List.set_cons_zero, List.set_cons_succ, cond_true, cond_false, Bool.cond_self], ?_, ?_, ?_, ?_, ?_, ?_, ?_, ?_, ?_, ?_, ?_, ?_⟩
        · exact fb0
        · exact fb1
        · exact fb2
        · exact fb3
        · exact fb4
        · exact fB
        · exact fL
        · exact exE
        · exact exP
        · exact h7_25
        · exact h14_25
        · exact h22_25
      · have ge25 : gg25 = false := hi2
        have ge23 : gg23 = true := inv_dep ho hall 23 (by kernel_rfl)
        have ge24 : gg24 = true := inv_dep ho hall 24 (by kernel_rfl)
        have ge7 : gg7 = true := inv_dep ho hall 7 (by kernel_rfl)
        have ge14 : gg14 = true := inv_dep ho hall 14 (by kernel_rfl)
        have ge22 : gg22 = true := inv_dep ho hall 22 (by kernel_rfl)
        clear hall hi1 hi2
        subst ge25 ge23 ge24 ge7 ge14 ge22
        have ho2 := ho
        simp only [List.getElem?_toArray, List.getElem?_cons_zero, List.getElem?_cons_succ] at ho2
        have ho3 := Option.some.inj ho2; clear ho2; subst ho3
        simp only [cond_true, cond_false] at fb4
        obtain ⟨ba0, bb0⟩ := fb0.read; have bl0 := fb0.lt
        obtain ⟨ba1, bb1⟩ := fb1.read; have bl1 := fb1.lt
        obtain ⟨ba2, bb2⟩ := fb2.read; have bl2 := fb2.lt
        obtain ⟨ba3, bb3⟩ := fb3.read; have bl3 := fb3.lt
        obtain ⟨ba4, bb4⟩ := fb4.read; have bl4 := fb4.lt
        obtain ⟨uu, hu⟩ := HU0.out
        simp only [Act.put, List.setIfInBounds_toArray, List.set_cons_zero, List.set_cons_succ]
        simp only [cond_true, cond_false]
        refine inv_op ho (by kernel_rfl) (fun K hK => ?_)
        clear ho
        go_simp
        refine hK.out _ _ ?_
        unfold IntegI
        refine ⟨gg0, gg1, gg2, gg3, gg4, gg5, gg6, true, gg8, gg9, gg10, gg11, gg12, gg13, true, gg15, gg16, gg17, gg18, gg19, gg20, gg21, true, true, true, true, rfl, by simp only [Act.put, List.setIfInBounds_toArray, List.set_cons_zero, List.set_cons_succ, cond_true, cond_false, Bool.cond_self], ?_, ?_, ?_, ?_, ?_, ?_, ?_, ?_, ?_, ?_, ?_, ?_⟩
        · (repeat' (first | (with_reducible assumption) | ((with_reducible refine Blk.new ?_); first | rfl | (simp; done)) | (with_reducible refine Blk.later (by assumption) ?_) | (with_reducible refine Blk.alloc ?_) | (with_reducible refine Blk.drewN ?_) | (with_reducible refine Blk.drew ?_) | (with_reducible refine Blk.other ?_ (by first | omega | (simp; done) | (simp; omega)))))
        · (repeat' (first | (with_reducible assumption) | ((with_reducible refine Blk.new ?_); first | rfl | (simp; done)) | (with_reducible refine Blk.later (by assumption) ?_) | (with_reducible refine Blk.alloc ?_) | (with_reducible refine Blk.drewN ?_) | (with_reducible refine Blk.drew ?_) | (with_reducible refine Blk.other ?_ (by first | omega | (simp; done) | (simp; omega)))))
        · (repeat' (first | (with_reducible assumption) | ((with_reducible refine Blk.new ?_); first | rfl | (simp; done)) | (with_reducible refine Blk.later (by assumption) ?_) | (with_reducible refine Blk.alloc ?_) | (with_reducible refine Blk.drewN ?_) | (with_reducible refine Blk.drew ?_) | (with_reducible refine Blk.other ?_ (by first | omega | (simp; done) | (simp; omega)))))
        · (repeat' (first | (with_reducible assumption) | ((with_reducible refine Blk.new ?_); first | rfl | (simp; done)) | (with_reducible refine Blk.later (by assumption) ?_) | (with_reducible refine Blk.alloc ?_) | (with_reducible refine Blk.drewN ?_) | (with_reducible refine Blk.drew ?_) | (with_reducible refine Blk.other ?_ (by first | omega | (simp; done) | (simp; omega)))))
        · exact Blk.set (fb4)
        · (repeat' (first | (with_reducible exact Below.refl _ _) | (with_reducible assumption) | (with_reducible refine belowThru ?_ (by assumption)) | (with_reducible refine belowAlloc ?_) | (with_reducible refine Below.setCell ?_ (by first | omega | (simp; done) | (simp; omega)) _) | (with_reducible refine Below.drew ?_) | (with_reducible refine below_drewN ?_ _)))
        · first | exact fL | (simp; omega)
        · exact KeepsFrom.set exE _ _
        · exact fun h => (exP h).set (by omega) (by omega)
        · intro _; rfl
        · intro _; rfl
        · intro _; rfl
      · exfalso; simp at hi1; omega
    case hfin =>
      intro a w9 hI
      obtain ⟨gg0, gg1, gg2, gg3, gg4, gg5, gg6, gg7, gg8, gg9, gg10, gg11, gg12, gg13, gg14, gg15, gg16, gg17, gg18, gg19, gg20, gg21, gg22, gg23, gg24, gg25, hL, rfl, fb0, fb1, fb2, fb3, fb4, fB, fL, exE, exP, h7_25, h14_25, h22_25⟩ := hI
      have hL2 : #[true, true, true, true, true, true, true, true, true, true, true, true, true, true, true, true, true, true, true, true, true, true, true, true, true, true] = #[gg0, gg1, gg2, gg3, gg4, gg5, gg6, gg7, gg8, gg9, gg10, gg11, gg12, gg13, gg14, gg15, gg16, gg17, gg18, gg19, gg20, gg21, gg22, gg23, gg24, gg25] := hL
      cases hL2
      simp only [Act.put, List.setIfInBounds_toArray, List.set_cons_zero, List.set_cons_succ]
      simp only [cond_true]
      gi_wp2
      simp only [cond_true] at fb4
      have fL2 : Blk w9 (wA.heap.size + 1) (ints (ls.set q s3)) 3 := by rw [← ints_set]; exact fb4
      exact ⟨exE, exP, ⟨⟨_, HS.out, fL2⟩, ⟨fb0, fb1, fb3⟩, fB⟩⟩
  case done =>
    rintro D xs W1 hD hall ⟨⟨ls, hp, kz⟩, ⟨b0, b1, b2⟩, hb⟩ hK
    obtain ⟨e1, f1⟩ := b1.read
    have hlen : xs.length = m := hall.length
    have hfin := hp.2 (by rw [hlen]; exact hall)
    rw [hlen, HMW.out] at hfin
    rw [hfin.all hp.1, ← HMN.out] at kz
    clear hfin hp
    gi_wp2
    have kz2 := kz.own (grownBy_putObj' W1 D (.deferred none)) (fun r e => by cases e; exact ⟨_, hK, rfl⟩)
    have hAz := hBA.size
    refine ⟨by simp, .inl ⟨_, _, rfl, run_takeDeferred hK, ?_⟩⟩
    refine ⟨.tuple #[.slice (some ⟨wA.heap.size + 1, 0, none⟩) M M, .int .i64 0], ?_, _, rfl, by omega, kz2, hb.trans (belowK_b (w := w) (Nat.le_refl _) W1 D _ _ (by omega) hK rfl rfl)⟩
    simp only [results, Try.results30]
    go_simp
  case stop =>
    rintro D c pre W1 _ _ h _
    exact h.elim
end Go.Proofs.Ytghmjdmiaajbnaa
