/-
  The texts that the laws of this seat share, merged: part 2.
-/
import Derived.BigQuiet
import Derived.Deep.Draws
import Derived.Deep.OwnRows
import Derived.Deep.QuietTactic
import Derived.Deep.RegionHeld3
import Derived.Laws.AppendOwn
import Derived.Lib.Hide
import Derived.LoopIn
import Derived.LoopNIn
import Derived.OneCell
import Derived.OwnWalkIn
import Derived.RangeFuncBound
import Derived.RangeFuncCalls
import Derived.RangeFuncLeaves
import Derived.RangeFuncNested
import Derived.Shelf.Abstract
import Derived.Shelf.AbstractIn
import Derived.Shelf.RegionOpen
import Derived.TacticsInMore
import Derived.Test.YtghmjdmiaajbnaaProg
import Derived.WalkKit
import Derived.WalkSmall
import Derived.WalkSpells
import Derived.Test.YtghmjdmiaajbnaaM1
/-
  Layer 2: whether an image is valid, by the code and by the document.
-/
namespace Go.Proofs.Ytghmjdmiaajbnaa
open Go.RowKit
set_option linter.unusedVariables false
set_option linter.unusedSimpArgs false

set_option maxHeartbeats 1000000 in
theorem icheck_any (W H : Int) (a : Option Addr) (n c : Nat) (zs : List Int) (hn : n ≤ maxLen) (w : World) (hR : Row w a n (iv zs)) :
    Calls Try.prog 51 #[.agg #[.int .i64 W, .int .i64 H, .slice a n c]] w fun e w' => e = .returned (.int .i64 (ckI W H zs)) ∧ Below w.heap.size w w' := by
  unfold maxLen at hn
  have hlen : zs.length = n := by have := hR.1; rwa [iv_length] at this
  have HR := Lib.hid hR
  clear hR
  by_cases hW : okS W
  · have dW : decide (okS W) = true := decide_eq_true hW
    by_cases hH : okS H
    · have dH : decide (okS H) = true := decide_eq_true hH
      have hm := okS_mul hW hH
      by_cases hL : (n : Int) = W * H
      · have hl : ((n : Int) != W * H) = false := by simpa using hL
        have HO : Hid ((okS W ∧ okS H) ∧ (zs.length : Int) = W * H) := ⟨⟨hW, hH⟩, by rw [hlen]; exact hL⟩
        have HN := Lib.hid hlen
        clear hlen hL hW hH
        go_enter Try.func51, Try.ntmps51
        go_wp2_with (go_at_call 79; (with_reducible refine (isSide_any _ _).mono ?_); rintro e w1 ⟨rfl, rfl⟩)
        go_loop [29] (fun i => ∃ k : Nat, k ≤ n ∧ i = .int .i64 k ∧ Hid (Upto zs k)) (fun i => n - (intOf i).toNat)
        case atStart => exact ⟨0, Nat.zero_le _, rfl, Upto.zero zs⟩
        case round =>
          obtain ⟨k, hk, rfl, hu⟩ := hrel
          by_cases hlt : k < n
          · obtain ⟨b, off, z, rfl, -, hz, hc⟩ := HR.out.int hlt
            have hc := cell_alloc (o := .cells #[.int .i64 W, .int .i64 H, .slice (some ⟨b, off, none⟩) n c] 24) hc
            by_cases hv : okV z
            · have dv : decide (okV z) = true := decide_eq_true hv
              have hu' : Hid (Upto zs (k + 1)) := hu.out.snoc hz hv
              clear hz hv
              go_wp2_with (go_at_call 80; (with_reducible refine (isValue_any _ _).mono ?_); rintro e w1 ⟨rfl, rfl⟩)
              go_round
              case rel => exact ⟨k + 1, hlt, by go_num, hu'⟩
              case measure => simp [intOf]; omega
            · have dv : decide (okV z) = false := decide_eq_false hv
              have he : ckI W H zs = 20 := ckI_no (fun h => hv (h.2.2 z (List.mem_of_getElem? hz)))
              clear hz hv
              go_wp2_with (go_at_call 80; (with_reducible refine (isValue_any _ _).mono ?_); rintro e w1 ⟨rfl, rfl⟩)
              go_ret
              exact ⟨by first | rfl | exact ret_int he.symm, by (repeat' (first | (with_reducible exact Below.refl _ _) | (with_reducible assumption) | (with_reducible refine belowThru ?_ (by assumption)) | (with_reducible refine belowAlloc ?_) | (with_reducible refine Below.setCell ?_ (by first | omega | (simp; done) | (simp; omega)) _) | (with_reducible refine Below.drew ?_) | (with_reducible refine below_drewN ?_ _)))⟩
          · have he : ckI W H zs = 0 := ckI_ok ⟨HO.out.1, HO.out.2, hu.out.all (by rw [HN.out]; omega)⟩
            go_wp2
            go_ret
            exact ⟨by first | rfl | exact ret_int he.symm, by (repeat' (first | (with_reducible exact Below.refl _ _) | (with_reducible assumption) | (with_reducible refine belowThru ?_ (by assumption)) | (with_reducible refine belowAlloc ?_) | (with_reducible refine Below.setCell ?_ (by first | omega | (simp; done) | (simp; omega)) _) | (with_reducible refine Below.drew ?_) | (with_reducible refine below_drewN ?_ _)))⟩
      · have hl : ((n : Int) != W * H) = true := by simpa using hL
        have he : ckI W H zs = 20 := ckI_no (fun h => hL (by rw [← hlen]; exact h.2.1))
        clear hlen hL hW hH
        rw [he]
        clear he
        go_enter Try.func51, Try.ntmps51
        go_wp2_with (go_at_call 79; (with_reducible refine (isSide_any _ _).mono ?_); rintro e w1 ⟨rfl, rfl⟩)
        go_ret
        exact ⟨rfl, by (repeat' (first | (with_reducible exact Below.refl _ _) | (with_reducible assumption) | (with_reducible refine belowThru ?_ (by assumption)) | (with_reducible refine belowAlloc ?_) | (with_reducible refine Below.setCell ?_ (by first | omega | (simp; done) | (simp; omega)) _) | (with_reducible refine Below.drew ?_) | (with_reducible refine below_drewN ?_ _)))⟩
    · have dH : decide (okS H) = false := decide_eq_false hH
      rw [ckI_no (fun h => hH h.1.2)]
      clear hlen hW hH
      go_enter Try.func51, Try.ntmps51
      go_wp2_with (go_at_call 79; (with_reducible refine (isSide_any _ _).mono ?_); rintro e w1 ⟨rfl, rfl⟩)
      go_ret
      exact ⟨rfl, by (repeat' (first | (with_reducible exact Below.refl _ _) | (with_reducible assumption) | (with_reducible refine belowThru ?_ (by assumption)) | (with_reducible refine belowAlloc ?_) | (with_reducible refine Below.setCell ?_ (by first | omega | (simp; done) | (simp; omega)) _) | (with_reducible refine Below.drew ?_) | (with_reducible refine below_drewN ?_ _)))⟩
  · have dW : decide (okS W) = false := decide_eq_false hW
    rw [ckI_no (fun h => hW h.1.1)]
    clear hlen hW
    go_enter Try.func51, Try.ntmps51
    go_wp2_with (go_at_call 79; (with_reducible refine (isSide_any _ _).mono ?_); rintro e w1 ⟨rfl, rfl⟩)
    go_ret
    exact ⟨rfl, by (repeat' (first | (with_reducible exact Below.refl _ _) | (with_reducible assumption) | (with_reducible refine belowThru ?_ (by assumption)) | (with_reducible refine belowAlloc ?_) | (with_reducible refine Below.setCell ?_ (by first | omega | (simp; done) | (simp; omega)) _) | (with_reducible refine Below.drew ?_) | (with_reducible refine below_drewN ?_ _)))⟩

/-! ### The document's own answer -/
set_option maxHeartbeats 400000 in
theorem rwithin_any (n lo hi : Int) (v : Bool) (hv : v = true ↔ lo ≤ n ∧ n ≤ hi) (w : World) :
    Calls Try.prog 92 #[.int .i64 n, .int .i64 lo, .int .i64 hi] w fun e w' => e = .returned (.bool v) ∧ w = w' := by
  cases v
  · by_cases h1 : lo ≤ n
    · have h2 : ¬ n ≤ hi := fun h2 => by have := hv.2 ⟨h1, h2⟩; cases this
      clear hv
      go_enter Try.func92, Try.ntmps92
      go_wp2
      go_ret
      exact ⟨rfl, rfl⟩
    · clear hv
      go_enter Try.func92, Try.ntmps92
      go_wp2
      go_ret
      exact ⟨rfl, rfl⟩
  · obtain ⟨h1, h2⟩ := hv.1 rfl
    clear hv
    go_enter Try.func92, Try.ntmps92
    go_wp2
    go_ret
    exact ⟨rfl, rfl⟩
theorem rside_any (n : Int) (w : World) : Calls Try.prog 92 #[.int .i64 n, .int .i64 1, .int .i64 16] w fun e w' => e = .returned (.bool (decide (okS n))) ∧ w = w' :=
  rwithin_any n 1 16 _ decide_eq_true_iff w
theorem rvalue_any (n : Int) (w : World) : Calls Try.prog 92 #[.int .i64 n, .int .i64 (-2147483648), .int .i64 2147483648] w fun e w' => e = .returned (.bool (decide (okV n))) ∧ w = w' :=
  rwithin_any n _ _ _ decide_eq_true_iff w

set_option maxHeartbeats 1000000 in
theorem rvalid_any (W H : Int) (a : Option Addr) (n c : Nat) (zs : List Int) (hn : n ≤ maxLen) (w : World) (hR : Row w a n (iv zs)) :
    Calls Try.prog 43 #[.agg #[.int .i64 W, .int .i64 H, .slice a n c]] w fun e w' => e = .returned (.bool (decide (okI W H zs))) ∧ Below w.heap.size w w' := by
  unfold maxLen at hn
  have hlen : zs.length = n := by have := hR.1; rwa [iv_length] at this
  have HR := Lib.hid hR
  clear hR
  by_cases hW : okS W
  · have dW : decide (okS W) = true := decide_eq_true hW
    by_cases hH : okS H
    · have dH : decide (okS H) = true := decide_eq_true hH
      have hm := okS_mul hW hH
      by_cases hL : (n : Int) = W * H
      · have hl : ((n : Int) != W * H) = false := by simpa using hL
        have HO : Hid ((okS W ∧ okS H) ∧ (zs.length : Int) = W * H) := ⟨⟨hW, hH⟩, by rw [hlen]; exact hL⟩
        have HN := Lib.hid hlen
        clear hlen hL hW hH
        go_enter Try.func43, Try.ntmps43
        go_wp2_with (go_at_call 92; (with_reducible refine (rside_any _ _).mono ?_); rintro e w1 ⟨rfl, rfl⟩)
        go_loop [3] (fun i => ∃ k : Nat, k ≤ n ∧ i = .int .i64 k ∧ Hid (Upto zs k)) (fun i => n - (intOf i).toNat)
        case atStart => exact ⟨0, Nat.zero_le _, rfl, Upto.zero zs⟩
        case round =>
          obtain ⟨k, hk, rfl, hu⟩ := hrel
          by_cases hlt : k < n
          · obtain ⟨b, off, z, rfl, -, hz, hc⟩ := HR.out.int hlt
            have hc := cell_alloc (o := .cells #[.int .i64 W, .int .i64 H, .slice (some ⟨b, off, none⟩) n c] 24) hc
            by_cases hv : okV z
            · have dv : decide (okV z) = true := decide_eq_true hv
              have hu' : Hid (Upto zs (k + 1)) := hu.out.snoc hz hv
              clear hz hv
              go_wp2_with (go_at_call 92; (with_reducible refine (rvalue_any _ _).mono ?_); rintro e w1 ⟨rfl, rfl⟩)
              go_round
              case rel => exact ⟨k + 1, hlt, by go_num, hu'⟩
              case measure => simp [intOf]; omega
            · have dv : decide (okV z) = false := decide_eq_false hv
              have he : decide (okI W H zs) = false := decide_eq_false (fun h => hv (h.2.2 z (List.mem_of_getElem? hz)))
              clear hz hv
              go_wp2_with (go_at_call 92; (with_reducible refine (rvalue_any _ _).mono ?_); rintro e w1 ⟨rfl, rfl⟩)
              go_ret
              exact ⟨by first | rfl | (rw [he]; rfl), by (repeat' (first | (with_reducible exact Below.refl _ _) | (with_reducible assumption) | (with_reducible refine belowThru ?_ (by assumption)) | (with_reducible refine belowAlloc ?_) | (with_reducible refine Below.setCell ?_ (by first | omega | (simp; done) | (simp; omega)) _) | (with_reducible refine Below.drew ?_) | (with_reducible refine below_drewN ?_ _)))⟩
          · have he : decide (okI W H zs) = true := decide_eq_true ⟨HO.out.1, HO.out.2, hu.out.all (by rw [HN.out]; omega)⟩
            go_wp2
            go_ret
            exact ⟨by first | rfl | (rw [he]; rfl), by (repeat' (first | (with_reducible exact Below.refl _ _) | (with_reducible assumption) | (with_reducible refine belowThru ?_ (by assumption)) | (with_reducible refine belowAlloc ?_) | (with_reducible refine Below.setCell ?_ (by first | omega | (simp; done) | (simp; omega)) _) | (with_reducible refine Below.drew ?_) | (with_reducible refine below_drewN ?_ _)))⟩
      · have hl : ((n : Int) != W * H) = true := by simpa using hL
        rw [decide_eq_false (fun h : okI W H zs => hL (by rw [← hlen]; exact h.2.1))]
        clear hlen hL hW hH
        go_enter Try.func43, Try.ntmps43
        go_wp2_with (go_at_call 92; (with_reducible refine (rside_any _ _).mono ?_); rintro e w1 ⟨rfl, rfl⟩)
        go_ret
        exact ⟨rfl, by (repeat' (first | (with_reducible exact Below.refl _ _) | (with_reducible assumption) | (with_reducible refine belowThru ?_ (by assumption)) | (with_reducible refine belowAlloc ?_) | (with_reducible refine Below.setCell ?_ (by first | omega | (simp; done) | (simp; omega)) _) | (with_reducible refine Below.drew ?_) | (with_reducible refine below_drewN ?_ _)))⟩
    · have dH : decide (okS H) = false := decide_eq_false hH
      rw [decide_eq_false (fun h : okI W H zs => hH h.1.2)]
      clear hlen hW hH
      go_enter Try.func43, Try.ntmps43
      go_wp2_with (go_at_call 92; (with_reducible refine (rside_any _ _).mono ?_); rintro e w1 ⟨rfl, rfl⟩)
      go_ret
      exact ⟨rfl, by (repeat' (first | (with_reducible exact Below.refl _ _) | (with_reducible assumption) | (with_reducible refine belowThru ?_ (by assumption)) | (with_reducible refine belowAlloc ?_) | (with_reducible refine Below.setCell ?_ (by first | omega | (simp; done) | (simp; omega)) _) | (with_reducible refine Below.drew ?_) | (with_reducible refine below_drewN ?_ _)))⟩
  · have dW : decide (okS W) = false := decide_eq_false hW
    rw [decide_eq_false (fun h : okI W H zs => hW h.1.1)]
    clear hlen hW
    go_enter Try.func43, Try.ntmps43
    go_wp2_with (go_at_call 92; (with_reducible refine (rside_any _ _).mono ?_); rintro e w1 ⟨rfl, rfl⟩)
    go_ret
    exact ⟨rfl, by (repeat' (first | (with_reducible exact Below.refl _ _) | (with_reducible assumption) | (with_reducible refine belowThru ?_ (by assumption)) | (with_reducible refine belowAlloc ?_) | (with_reducible refine Below.setCell ?_ (by first | omega | (simp; done) | (simp; omega)) _) | (with_reducible refine Below.drew ?_) | (with_reducible refine below_drewN ?_ _)))⟩
end Go.Proofs.Ytghmjdmiaajbnaa
/-
  Layer 2: new images out of the values for their places.
-/
namespace Go.Proofs.Ytghmjdmiaajbnaa
open Go.RowKit Go.Shelf
set_option linter.unusedVariables false
set_option linter.unusedSimpArgs false

attribute [local go_sem] Oper.semAt_some

theorem Blk.own {X Y : World} {b : Nat} {c : Array Value} {t : TypeId} {row : Option Nat} (h : Blk X b c t) (hg : X.grownBy Y row) (hr : ∀ r, row = some r → ∃ o : Obj, X.heap[r]? = some o ∧ o.isCells = false) : Blk Y b c t :=
  (hg.block b h.lt (fun e => by
    obtain ⟨o, ho, hc⟩ := hr b e.symm
    have : X.heap[b]? = _ := h
    rw [this] at ho; cases ho; cases hc)).trans h
theorem made_ints (N : Nat) : madeCells #[.int .i64 0] N = ints (List.replicate N 0) := by
  unfold madeCells ints
  apply Array.ext
  · simp
  · intro i h1 h2
    simp [Nat.mod_one]
theorem run_make_ints (N : Nat) (h : N ≤ 1099511627776) (w : World) : (Instr.makeSlice 22 (.int .i64 (N : Int)) (.int .i64 (N : Int))).run Try.prog w = .ok (.slice (some ⟨w.heap.size, 0, none⟩) N N) (w.alloc (.cells (ints (List.replicate N 0)) 3)) := by
  rw [← made_ints]
  exact run_make_row' 22 3 (.int .i64 0) 8 Try.underlying22 (by kernel_rfl) rfl .i64 .i64 N (by omega) (by omega) w
theorem ints_set (zs : List Int) (p : Nat) (v : Int) : (ints zs).setIfInBounds p (.int .i64 v) = ints (zs.set p v) := by
  unfold ints
  apply Array.ext'
  simp [List.map_set]

theorem alloc5 (w : World) (c0 : Array Value) (t0 : TypeId) (c1 : Array Value) (t1 : TypeId) (c2 : Array Value) (t2 : TypeId) (c3 : Array Value) (t3 : TypeId) (c4 : Array Value) (t4 : TypeId) :
    ∃ W0, ((((w.alloc (.cells c0 t0)).alloc (.cells c1 t1)).alloc (.cells c2 t2)).alloc (.cells c3 t3)).alloc (.cells c4 t4) = W0 ∧ Blk W0 w.heap.size c0 t0 ∧ Blk W0 (w.heap.size + 1) c1 t1 ∧ Blk W0 (w.heap.size + 1 + 1) c2 t2 ∧ Blk W0 (w.heap.size + 1 + 1 + 1) c3 t3 ∧ Blk W0 (w.heap.size + 1 + 1 + 1 + 1) c4 t4 ∧ Below w.heap.size w W0 ∧ W0.heap.size = w.heap.size + 1 + 1 + 1 + 1 + 1 :=
  ⟨_, rfl, Blk.alloc (Blk.alloc (Blk.alloc (Blk.alloc (Blk.new rfl)))), Blk.alloc (Blk.alloc (Blk.alloc (Blk.new (by simp)))), Blk.alloc (Blk.alloc (Blk.new (by simp))), Blk.alloc (Blk.new (by simp)), Blk.new (by simp), by (repeat' (first | (with_reducible exact Below.refl _ _) | (with_reducible assumption) | (with_reducible refine belowThru ?_ (by assumption)) | (with_reducible refine belowAlloc ?_) | (with_reducible refine Below.setCell ?_ (by first | omega | (simp; done) | (simp; omega)) _) | (with_reducible refine Below.drew ?_) | (with_reducible refine below_drewN ?_ _))), by simp⟩
theorem cell_putObj {W : World} {l : Nat} {o o' : Obj} {a : Addr} {v : Value} (ho : W.heap[l]? = some o) (hc : o.isCells = false) (h : W.cell? a = some v) : (W.putObj l o').cell? a = some v := by
  rw [World.cell?_of_block (w := W)]
  · exact h
  · refine World.putObj_heap_other (fun e => ?_)
    unfold World.cell? at h
    rw [e, ho] at h
    cases o <;> simp_all [Obj.isCells]
theorem PixG.putObj {Bm b off len c : Nat} {Wd Hd : Int} {R : Nat → Int → Prop} {W : World} {l : Nat} {o o' : Obj} (h : PixG Bm b off len c Wd Hd R W) (ho : W.heap[l]? = some o) (hc : o.isCells = false) : PixG Bm b off len c Wd Hd R (W.putObj l o') := by
  obtain ⟨g0, g1, g2, g3⟩ := h
  exact ⟨cell_putObj ho hc g0, cell_putObj ho hc g1, cell_putObj ho hc g2, fun j hj => by obtain ⟨z, hz, cz⟩ := g3 j hj; exact ⟨z, hz, cell_putObj ho hc cz⟩⟩

theorem PixG.alloc {Bm b off len c : Nat} {Wd Hd : Int} {R : Nat → Int → Prop} {W : World} (h : PixG Bm b off len c Wd Hd R W) (o : Obj) : PixG Bm b off len c Wd Hd R (W.alloc o) := by
  obtain ⟨g0, g1, g2, g3⟩ := h
  exact ⟨cell_alloc g0, cell_alloc g1, cell_alloc g2, fun j hj => by obtain ⟨z, hz, cz⟩ := g3 j hj; exact ⟨z, hz, cell_alloc cz⟩⟩
theorem PixG.later {Bm b off len c : Nat} {Wd Hd : Int} {R : Nat → Int → Prop} {W W' : World} (hb : Below W.heap.size W W') (h : PixG Bm b off len c Wd Hd R W) : PixG Bm b off len c Wd Hd R W' := by
  obtain ⟨g0, g1, g2, g3⟩ := h
  exact ⟨cell_later hb g0, cell_later hb g1, cell_later hb g2, fun j hj => by obtain ⟨z, hz, cz⟩ := g3 j hj; exact ⟨z, hz, cell_later hb cz⟩⟩

/-- What is written so far of a new image. -/
def Put (N : Nat) (V : Nat → Int) (pre : List (Pel N (fun _ _ => True))) (zs : List Int) : Prop := zs.length = N ∧ ∀ x ∈ pre, zs[x.1.1]? = some (inR (V x.1.1) (-2147483648) 2147483648)
theorem Put.snoc {N : Nat} {V : Nat → Int} {pre : List (Pel N (fun _ _ => True))} {zs : List Int} (h : Put N V pre zs) (x : Pel N (fun _ _ => True)) : Put N V (pre ++ [x]) (zs.set x.1.1 (inR (V x.1.1) (-2147483648) 2147483648)) := by
  refine ⟨by rw [List.length_set]; exact h.1, fun y hy => ?_⟩
  by_cases e : x.1.1 = y.1.1
  · rw [e, List.getElem?_set_self (by rw [h.1]; exact y.2.1)]
  · rw [List.getElem?_set_ne e]
    rcases List.mem_append.1 hy with k | k
    · exact h.2 y k
    · rw [List.mem_singleton] at k; subst k; exact absurd rfl e
theorem Put.all {N : Nat} {V : Nat → Int} {xs : List (Pel N (fun _ _ => True))} {zs : List Int} (h : Put N V xs zs) (ha : PixAll N xs) : zs = (List.range N).map fun k => inR (V k) (-2147483648) 2147483648 := by
  apply List.ext_getElem?
  intro i
  by_cases hi : i < N
  · have hm : i ∈ xs.map (fun x => x.1.1) := by rw [ha]; exact List.mem_range.2 hi
    obtain ⟨x, hx, rfl⟩ := List.mem_map.1 hm
    rw [h.2 x hx]; simp [hi]
  · rw [List.getElem?_eq_none (by rw [h.1]; omega), List.getElem?_eq_none (by simp; omega)]

set_option maxRecDepth 100000 in
set_option maxHeartbeats 4000000 in
theorem build_in (n : Nat) (hn : 3 ≤ n) (W H : Int) (N : Nat) (f : FuncId) (cap : Array Value) (V : Nat → Int) (hN : W * H = (N : Int)) (w0 : 1 ≤ W) (w1 : W ≤ 16) (h0 : 1 ≤ H) (h1 : H ≤ 16) (N1 : N ≤ 256)
    (ef : ∀ args w, (callFunc f args).run Try.prog w = .ok (.enter f args) w) (w : World)
    (HV : Hid (∀ k, k < N → ∀ W1, Below w.heap.size w W1 → Calls Try.prog f (#[.agg #[.int .i64 ((k : Int) % W), .int .i64 ((k : Int) / W)]] ++ cap) W1 fun e W2 => e = .returned (.int .i64 (V k)) ∧ Below W1.heap.size W1 W2)) :
    CallsIn Fence.wide n Try.prog 53 #[.int .i64 W, .int .i64 H, .func (.func f) #[] cap] w fun e w' => ∃ b, e = .returned (.agg #[.int .i64 W, .int .i64 H, .slice (some ⟨b, 0, none⟩) N N]) ∧ w.heap.size ≤ b ∧ Blk w' b (ints ((List.range N).map fun k => inR (V k) (-2147483648) 2147483648)) 3 ∧ Below w.heap.size w w' := by
  have hmk := run_make_ints N (by omega)
  have hw : IntKind.i64.wrap (N : Int) = (N : Int) := IntWalk.i64_in _ (by omega)
  refine callsIn_of_wp_marks Try.func53 rfl trivial ?_ rfl
  simp only [Try.ntmps53, List.size_toArray, List.length_cons, List.length_nil, Nat.reduceAdd, Nat.reduceSub, Array.replicate_succ, Array.replicate_zero, List.push_toArray, List.append_toArray, List.nil_append, List.cons_append]
  have n1 : 1 ≤ n := by omega
  have n2 : 1 ≤ n - 1 - 1 := by omega
  have hmx : Try.prog.follows .mixedOrders = true := by kernel_rfl
  gi_wp2_with ((try (refine ⟨trivial, ?_⟩)); gi_at_call 69; refine (callsIn_wide.2 (pixels_any _ _ _ _ _ _)).mono ?_; rintro e w' ⟨rfl, rfl⟩)
  obtain ⟨W0, hW0, k0, k1, k2, k3, k4, hB0, hsz⟩ := alloc5 w #[.func (.func f) #[] cap] 87 #[.int .i64 0, .int .i64 0, .slice none 0 0] 24 (ints (List.replicate N 0)) 3 #[.int .i64 W, .int .i64 H, .slice (some ⟨w.heap.size + 1 + 1, 0, none⟩) N N] 86 #[.int .i64 W, .int .i64 H, .slice (some ⟨w.heap.size + 1 + 1, 0, none⟩) N N] 86
  rw [hW0]
  clear hW0
  have hG0 : PixG (w.heap.size + 1 + 1 + 1 + 1) (w.heap.size + 1 + 1) 0 N N W H (fun _ _ => True) W0 :=
    ⟨k4.cells 0, k4.cells 1, k4.cells 2, fun j hj => ⟨0, trivial, by rw [k2.cells, ints_get, Nat.zero_add, List.getElem?_replicate, if_pos hj]; rfl⟩⟩
  refine wpIn_rangeFunc_ownH rfl n1 (gf := 110) (lb := #[.pointer (some ⟨w.heap.size + 1 + 1 + 1 + 1, 0, none⟩)]) rfl trivial (enters_of Try.func110 (by kernel_rfl) rfl)
    (pix_stops (n - 1) (w.heap.size + 1 + 1 + 1 + 1) (w.heap.size + 1 + 1) 0 N N W H (fun _ _ => True) (by omega) w0 (by omega) W0 (by omega) (by omega) hG0)
    (fun hAB hBC hA => hBC (hAB hA))
    (fun W1 l o o' hl ho hc _ hG => PixG.putObj hG ho hc)
    (Below.refl _ _) (fun _ => rfl)
    (fun pre W1 => (∃ zs, Put N V pre zs ∧ Blk W1 (w.heap.size + 1 + 1) (ints zs) 3) ∧ (Blk W1 w.heap.size #[.func (.func f) #[] cap] 87 ∧ Blk W1 (w.heap.size + 1) #[.int .i64 0, .int .i64 0, .slice none 0 0] 24 ∧ Blk W1 (w.heap.size + 1 + 1 + 1) #[.int .i64 W, .int .i64 H, .slice (some ⟨w.heap.size + 1 + 1, 0, none⟩) N N] 86 ∧ Blk W1 (w.heap.size + 1 + 1 + 1 + 1) #[.int .i64 W, .int .i64 H, .slice (some ⟨w.heap.size + 1 + 1, 0, none⟩) N N] 86) ∧ Below w.heap.size w W1)
    (fun _ _ _ => False)
    (fun s X Y row hs hg hr => by
      obtain ⟨⟨zs, hp, kz⟩, ⟨b0, b1, b3, b4⟩, hb⟩ := hs
      have hr' := fun r e => (hr r e).2
      exact ⟨⟨zs, hp, kz.own hg hr'⟩, ⟨b0.own hg hr', b1.own hg hr', b3.own hg hr', b4.own hg hr'⟩, ownFrom_below (β := Unit) (Nat.le_refl _) hB0.size () X Y row hb hg hr⟩)
    (fun _ _ _ _ _ hs _ _ => hs)
    ⟨⟨_, ⟨List.length_replicate, fun _ h => by cases h⟩, k2⟩, ⟨k0, k1, k3, k4⟩, hB0⟩
    (fun x a' W1 => ∃ Bx, Blk W1 Bx #[.int .i64 ((x.1.1 : Int) % W), .int .i64 ((x.1.1 : Int) / W)] 83 ∧ w.heap.size + 1 + 1 + 1 + 1 < Bx ∧ a' = { tmps := #[.int .i64 W, .int .i64 H, .func (.func f) #[] cap, undef, undef, .pointer (some ⟨w.heap.size, 0, none⟩), .pointer (some ⟨w.heap.size + 1, 0, none⟩), .pointer (some ⟨w.heap.size + 1 + 1 + 1, 0, none⟩), .pointer (some ⟨Bx, 0, none⟩), .int .i64 W, .int .i64 H, .int .i64 W, .int .i64 H, .int .i64 N, .slice (some ⟨w.heap.size + 1 + 1, 0, none⟩) N N, .agg #[.int .i64 W, .int .i64 H, .slice (some ⟨w.heap.size + 1 + 1, 0, none⟩) N N], .agg #[.int .i64 W, .int .i64 H, .slice (some ⟨w.heap.size + 1 + 1, 0, none⟩) N N], .func (.func 110) #[] #[.pointer (some ⟨w.heap.size + 1 + 1 + 1 + 1, 0, none⟩)], .agg #[.int .i64 ((x.1.1 : Int) % W), .int .i64 ((x.1.1 : Int) / W)], .int .i64 x.1.2, undef, undef, undef, undef, undef, undef, undef, undef, undef, undef, undef], defers := [] })
    (fun x a' _ X Y row hs hg hr => by obtain ⟨Bx, h1, h2, h3⟩ := hs; exact ⟨Bx, h1.own hg (fun r e => (hr r e).2), h2, h3⟩)
    ?assign ?body ?done ?stop
  case assign =>
    rintro l pre x W1 K ⟨⟨zs, hp, kz⟩, ⟨b0, b1, b3, b4⟩, hb⟩ hK
    simp only [pxEnc]
    gi_wp2
    exact hK _ _ ((KeepsOthers.alloc _ _).from _) (fun hG => hG.alloc _) ⟨⟨zs, hp, kz.alloc⟩, ⟨b0.alloc, b1.alloc, b3.alloc, b4.alloc⟩, hb.alloc hb.size _⟩ ⟨W1.heap.size, Blk.new rfl, by have := b4.lt; omega, rfl⟩
  case body =>
    rintro l pre x a' W1 hl _ ⟨⟨zs, hp, k3⟩, ⟨k0, kr, k1, k4⟩, hB⟩ ⟨Bx, k2, hx, rfl⟩ hlt
    obtain ⟨⟨k, z⟩, hk, ht⟩ := x
    have hp' := hp.snoc ⟨(k, z), hk, ht⟩
    dsimp only at hk k2 hp' ⊢
    have hkN : (k : Int) < (N : Int) := by omega
    have hk0 : (0 : Int) ≤ (k : Int) := by omega
    obtain ⟨v1, v2, v3, v4, v5, v6⟩ := small_div k W w0 (by omega)
    have HI := Lib.hid (fun w' => index_any W H ((k : Int) % W) ((k : Int) / W) k (some ⟨w.heap.size + 1 + 1, 0, none⟩) N N (Lib.hid (by have := Int.mul_ediv_add_emod (k : Int) W; rw [Int.mul_comm]; exact this)) v3 (by
      have : (k : Int) / W < H := Int.ediv_lt_of_lt_mul (by omega) (by rw [Int.mul_comm, hN]; omega)
      omega) (by omega) (by omega) v5 (by omega) w')
    obtain ⟨z0, hz0⟩ : ∃ z0, (ints zs)[k]? = some (.int .i64 z0) := ⟨zs[k]'(by rw [hp.1]; exact hk), by rw [ints_get, List.getElem?_eq_getElem (by rw [hp.1]; exact hk)]; rfl⟩
    have HV1 := Lib.hid (HV.out k hk)
    obtain ⟨a0, b0⟩ := k0.read; obtain ⟨a1, b1⟩ := k1.read; obtain ⟨a2, b2⟩ := k2.read; obtain ⟨a3, b3⟩ := k3.read; obtain ⟨a4, b4⟩ := k4.read
    have hw1 := k4.lt
    have HB1 := Lib.hid hB
    clear v1 v2 v3 v4 v5 v6 hmk hw hN hG0
    gi_wp2
    refine held_in (fun w' => (Blk w' w.heap.size #[.func (.func f) #[] cap] 87 ∧ (∀ i : Nat, w'.cell? ⟨w.heap.size, i, none⟩ = (#[.func (.func f) #[] cap] : Array Value)[i]?)) ∧ (Blk w' (w.heap.size + 1 + 1 + 1) #[.int .i64 W, .int .i64 H, .slice (some ⟨w.heap.size + 1 + 1, 0, none⟩) N N] 86 ∧ (∀ i : Nat, w'.cell? ⟨w.heap.size + 1 + 1 + 1, i, none⟩ = (#[.int .i64 W, .int .i64 H, .slice (some ⟨w.heap.size + 1 + 1, 0, none⟩) N N] : Array Value)[i]?)) ∧ (Blk w' Bx #[.int .i64 ((k : Int) % W), .int .i64 ((k : Int) / W)] 83 ∧ (∀ i : Nat, w'.cell? ⟨Bx, i, none⟩ = (#[.int .i64 ((k : Int) % W), .int .i64 ((k : Int) / W)] : Array Value)[i]?)) ∧ Below w.heap.size w w') hmx (by kernel_rfl) (by rintro ⟨_, _, h⟩; exact h) ⟨k0.drew.full, k1.drew.full, k2.drew.full, hB.drew⟩ (fun hHeld => ?_)
    refine wpAnyH_take (i := 0) (v := ?_) rfl (by kernel_rfl) (by kernel_rfl) (by kernel_rfl) (fun _ _ _ h => h) (Or.inl ⟨by rfl, ?hT0⟩) (by assumption) ?_
    case hT0 => ((intro w hSw; (try dsimp only at hSw); go_simp); try (with_reducible rfl))
    try simp only [Act.put, List.setIfInBounds_toArray, List.set_cons_zero, List.set_cons_succ]
    refine wpAnyH_take (i := 1) (v := ?_) rfl (by kernel_rfl) (by kernel_rfl) (by kernel_rfl) (fun _ _ _ h => h) (Or.inl ⟨by rfl, ?hT1⟩) (by assumption) ?_
    case hT1 => ((intro w hSw; (try dsimp only at hSw); go_simp); try (with_reducible rfl))
    try simp only [Act.put, List.setIfInBounds_toArray, List.set_cons_zero, List.set_cons_succ]
    refine wpAnyH_take (i := 2) (v := ?_) rfl (by kernel_rfl) (by kernel_rfl) (by kernel_rfl) (fun _ _ _ h => h) (Or.inl ⟨by rfl, ?hT2⟩) (by assumption) ?_
    case hT2 => ((intro w hSw; (try dsimp only at hSw); go_simp); try (with_reducible rfl))
    try simp only [Act.put, List.setIfInBounds_toArray, List.set_cons_zero, List.set_cons_succ]
    refine wpAnyH_take (i := 3) (v := ?_) rfl (by kernel_rfl) (by kernel_rfl) (by kernel_rfl) (fun _ _ _ h => h) (Or.inl ⟨by rfl, ?hT3⟩) (by assumption) ?_
    case hT3 => ((intro w hSw; (try dsimp only at hSw); go_simp); try (with_reducible rfl))
    try simp only [Act.put, List.setIfInBounds_toArray, List.set_cons_zero, List.set_cons_succ]
    refine wpAnyH_take (i := 5) (v := ?_) rfl (by kernel_rfl) (by kernel_rfl) (by kernel_rfl) (fun _ _ _ h => h) (Or.inl ⟨by rfl, ?hT4⟩) (by assumption) ?_
    case hT4 => ((intro w hSw; (try dsimp only at hSw); go_simp); try (with_reducible rfl))
    try simp only [Act.put, List.setIfInBounds_toArray, List.set_cons_zero, List.set_cons_succ]
    refine wpAnyH_take (i := 6) (v := ?_) rfl (by kernel_rfl) (by kernel_rfl) (by kernel_rfl) (fun _ _ _ h => h) (Or.inl ⟨by rfl, ?hT5⟩) (by assumption) ?_
    case hT5 => ((intro w hSw; (try dsimp only at hSw); go_simp); try (with_reducible rfl))
    try simp only [Act.put, List.setIfInBounds_toArray, List.set_cons_zero, List.set_cons_succ]
    refine wpAnyH_ready (rs := [4]) (by kernel_rfl) (by simp) ?_
    refine AllReadyH.cons rfl (fun K hK => ?_) AllReadyH.nil
    go_simp
    (go_at_call 96; (with_reducible refine (HI.out _).mono ?_); rintro e wA ⟨rfl, hb⟩)
    refine hK.out _ _ ?_ (fun hHeldN => ?_)
    · (try dsimp only); (((first | (apply hold3; (focus assumption); intro p0 p1 p2 pB) | skip); refine ⟨Blk.full ?_, Blk.full ?_, Blk.full ?_, ?_⟩; all_goals (first | ((repeat' (first | (with_reducible assumption) | ((with_reducible refine Blk.new ?_); first | rfl | (simp; done)) | (with_reducible refine Blk.later (by assumption) ?_) | (with_reducible refine Blk.alloc ?_) | (with_reducible refine Blk.drewN ?_) | (with_reducible refine Blk.drew ?_) | (with_reducible refine Blk.other ?_ (by first | omega | (simp; done) | (simp; omega))))); done) | ((repeat' (first | (with_reducible exact Below.refl _ _) | (with_reducible assumption) | (with_reducible refine belowThru ?_ (by assumption)) | (with_reducible refine belowAlloc ?_) | (with_reducible refine Below.setCell ?_ (by first | omega | (simp; done) | (simp; omega)) _) | (with_reducible refine Below.drew ?_) | (with_reducible refine below_drewN ?_ _))); done))))
    clear hK K hHeld
    have hHeld := hHeldN
    clear hHeldN
    try simp only [Act.put, List.setIfInBounds_toArray, List.set_cons_zero, List.set_cons_succ]
    have hA : Below W1.heap.size W1 wA := ((Below.refl _ W1).drew).trans hb
    clear hb
    refine wpAnyH_ready (rs := [7]) (by kernel_rfl) (by simp) ?_
    refine AllReadyH.cons rfl (fun K hK => ?_) AllReadyH.nil
    go_simp
    (go_at_fn f; (with_reducible refine (HV1.out _ (HB1.out.trans (hA.mono HB1.out.size))).mono ?_); rintro e wB ⟨rfl, hb⟩)
    refine hK.out _ _ ?_ (fun hHeldN => ?_)
    · (try dsimp only); (((first | (apply hold3; (focus assumption); intro p0 p1 p2 pB) | skip); refine ⟨Blk.full ?_, Blk.full ?_, Blk.full ?_, ?_⟩; all_goals (first | ((repeat' (first | (with_reducible assumption) | ((with_reducible refine Blk.new ?_); first | rfl | (simp; done)) | (with_reducible refine Blk.later (by assumption) ?_) | (with_reducible refine Blk.alloc ?_) | (with_reducible refine Blk.drewN ?_) | (with_reducible refine Blk.drew ?_) | (with_reducible refine Blk.other ?_ (by first | omega | (simp; done) | (simp; omega))))); done) | ((repeat' (first | (with_reducible exact Below.refl _ _) | (with_reducible assumption) | (with_reducible refine belowThru ?_ (by assumption)) | (with_reducible refine belowAlloc ?_) | (with_reducible refine Below.setCell ?_ (by first | omega | (simp; done) | (simp; omega)) _) | (with_reducible refine Below.drew ?_) | (with_reducible refine below_drewN ?_ _))); done))))
    clear hK K hHeld
    have hHeld := hHeldN
    clear hHeldN
    try simp only [Act.put, List.setIfInBounds_toArray, List.set_cons_zero, List.set_cons_succ]
    have hAB : Below W1.heap.size W1 wB := hA.trans (hb.mono hA.size)
    clear hb hA
    refine wpAnyH_ready (rs := [8]) (by kernel_rfl) (by simp) ?_
    refine AllReadyH.cons rfl (fun K hK => ?_) AllReadyH.nil
    go_simp
    (go_at_call 55; (with_reducible refine (bring_any _ _ _ _).mono ?_); rintro e w1 ⟨rfl, rfl⟩)
    refine hK.out _ _ ?_ (fun hHeldN => ?_)
    · (try dsimp only); (((first | (apply hold3; (focus assumption); intro p0 p1 p2 pB) | skip); refine ⟨Blk.full ?_, Blk.full ?_, Blk.full ?_, ?_⟩; all_goals (first | ((repeat' (first | (with_reducible assumption) | ((with_reducible refine Blk.new ?_); first | rfl | (simp; done)) | (with_reducible refine Blk.later (by assumption) ?_) | (with_reducible refine Blk.alloc ?_) | (with_reducible refine Blk.drewN ?_) | (with_reducible refine Blk.drew ?_) | (with_reducible refine Blk.other ?_ (by first | omega | (simp; done) | (simp; omega))))); done) | ((repeat' (first | (with_reducible exact Below.refl _ _) | (with_reducible assumption) | (with_reducible refine belowThru ?_ (by assumption)) | (with_reducible refine belowAlloc ?_) | (with_reducible refine Below.setCell ?_ (by first | omega | (simp; done) | (simp; omega)) _) | (with_reducible refine Below.drew ?_) | (with_reducible refine below_drewN ?_ _))); done))))
    clear hK K hHeld
    have hHeld := hHeldN
    clear hHeldN
    try simp only [Act.put, List.setIfInBounds_toArray, List.set_cons_zero, List.set_cons_succ]
    refine wpAnyH_take (i := 9) (v := ?_) rfl (by kernel_rfl) (by kernel_rfl) (by kernel_rfl) (fun _ _ _ h => h) (Or.inl ⟨by rfl, ?hT6⟩) (by assumption) ?_
    case hT6 => ((intro w hSw; (try dsimp only at hSw); go_simp); try (with_reducible rfl))
    try simp only [Act.put, List.setIfInBounds_toArray, List.set_cons_zero, List.set_cons_succ]
    have k3' := Blk.later hAB k3
    obtain ⟨a3', b3'⟩ := k3'.read
    refine wpAnyH_ready (rs := [10]) (by kernel_rfl) (by simp) ?_
    refine AllReadyH.cons rfl (fun K hK => ?_) AllReadyH.nil
    go_simp
    refine hK.out _ _ ?_ (fun hHeldN => ?_)
    · (try dsimp only); (((first | (apply hold3; (focus assumption); intro p0 p1 p2 pB) | skip); refine ⟨Blk.full ?_, Blk.full ?_, Blk.full ?_, ?_⟩; all_goals (first | ((repeat' (first | (with_reducible assumption) | ((with_reducible refine Blk.new ?_); first | rfl | (simp; done)) | (with_reducible refine Blk.later (by assumption) ?_) | (with_reducible refine Blk.alloc ?_) | (with_reducible refine Blk.drewN ?_) | (with_reducible refine Blk.drew ?_) | (with_reducible refine Blk.other ?_ (by first | omega | (simp; done) | (simp; omega))))); done) | ((repeat' (first | (with_reducible exact Below.refl _ _) | (with_reducible assumption) | (with_reducible refine belowThru ?_ (by assumption)) | (with_reducible refine belowAlloc ?_) | (with_reducible refine Below.setCell ?_ (by first | omega | (simp; done) | (simp; omega)) _) | (with_reducible refine Below.drew ?_) | (with_reducible refine below_drewN ?_ _))); done))))
    clear hK K hHeld
    have hHeld := hHeldN
    clear hHeldN
    try simp only [Act.put, List.setIfInBounds_toArray, List.set_cons_zero, List.set_cons_succ]
    refine wpAnyH_done (by kernel_rfl) ?_ _
    gi_wp2
    obtain ⟨⟨q0, -⟩, ⟨q1, -⟩, -, qB⟩ := hHeld
    have q3 : Blk (wB.setCell ⟨w.heap.size + 1 + 1, k, none⟩ (.int .i64 (inR (V k) (-2147483648) 2147483648))) (w.heap.size + 1 + 1) (ints (zs.set k (inR (V k) (-2147483648) 2147483648))) 3 := by rw [← ints_set]; exact Blk.set k3'
    have q4 := Blk.other (a := ⟨w.heap.size + 1 + 1, k, none⟩) (v := .int .i64 (inR (V k) (-2147483648) 2147483648)) (Blk.later hAB k4) (by simp; omega)
    have qr := Blk.other (a := ⟨w.heap.size + 1 + 1, k, none⟩) (v := .int .i64 (inR (V k) (-2147483648) 2147483648)) (Blk.later hAB kr) (by simp)
    refine ⟨(KeepsFrom.of_below hAB).trans ((KeepsOthers.setCell _ _ _).from _), fun _ => ⟨q4.cells 0, q4.cells 1, q4.cells 2, fun j hj => ?_⟩, ⟨⟨_, hp', q3⟩, ⟨q0, qr, q1, q4⟩, qB⟩⟩
    have hl := hp'.1
    exact ⟨(zs.set k (inR (V k) (-2147483648) 2147483648))[j]'(by omega), trivial, by rw [q3.cells, ints_get, Nat.zero_add, List.getElem?_eq_getElem (by omega)]; rfl⟩
  case done =>
    rintro D xs W1 hD hall ⟨⟨zs, hp, kz⟩, ⟨b0, b1, b3, b4⟩, hb⟩ hK
    obtain ⟨e1, f1⟩ := b1.read
    obtain ⟨e3, f3⟩ := b3.read
    rw [hp.all hall] at kz
    have kr : Blk (((W1.setCell ⟨w.heap.size + 1, 0, none⟩ (.int .i64 W)).setCell ⟨w.heap.size + 1, 1, none⟩ (.int .i64 H)).setCell ⟨w.heap.size + 1, 2, none⟩ (.slice (some ⟨w.heap.size + 1 + 1, 0, none⟩) N N)) (w.heap.size + 1) #[.int .i64 W, .int .i64 H, .slice (some ⟨w.heap.size + 1 + 1, 0, none⟩) N N] 24 := Blk.set (Blk.set (Blk.set b1))
    have kz' : Blk (((W1.setCell ⟨w.heap.size + 1, 0, none⟩ (.int .i64 W)).setCell ⟨w.heap.size + 1, 1, none⟩ (.int .i64 H)).setCell ⟨w.heap.size + 1, 2, none⟩ (.slice (some ⟨w.heap.size + 1 + 1, 0, none⟩) N N)) (w.heap.size + 1 + 1) (ints ((List.range N).map fun k => inR (V k) (-2147483648) 2147483648)) 3 := by (repeat' (first | (with_reducible assumption) | ((with_reducible refine Blk.new ?_); first | rfl | (simp; done)) | (with_reducible refine Blk.later (by assumption) ?_) | (with_reducible refine Blk.alloc ?_) | (with_reducible refine Blk.drewN ?_) | (with_reducible refine Blk.drew ?_) | (with_reducible refine Blk.other ?_ (by first | omega | (simp; done) | (simp; omega)))))
    have hK' := (((KeepsOthers.setCell W1 ⟨w.heap.size + 1, 0, none⟩ (.int .i64 W)).trans (KeepsOthers.setCell _ ⟨w.heap.size + 1, 1, none⟩ (.int .i64 H))).trans (KeepsOthers.setCell _ ⟨w.heap.size + 1, 2, none⟩ (.slice (some ⟨w.heap.size + 1 + 1, 0, none⟩) N N))).same D _ hK rfl
    have hb' : Below w.heap.size w (((W1.setCell ⟨w.heap.size + 1, 0, none⟩ (.int .i64 W)).setCell ⟨w.heap.size + 1, 1, none⟩ (.int .i64 H)).setCell ⟨w.heap.size + 1, 2, none⟩ (.slice (some ⟨w.heap.size + 1 + 1, 0, none⟩) N N)) := by (repeat' (first | (with_reducible exact Below.refl _ _) | (with_reducible assumption) | (with_reducible refine belowThru ?_ (by assumption)) | (with_reducible refine belowAlloc ?_) | (with_reducible refine Below.setCell ?_ (by first | omega | (simp; done) | (simp; omega)) _) | (with_reducible refine Below.drew ?_) | (with_reducible refine below_drewN ?_ _)))
    gi_wp2
    obtain ⟨Wf, hWf⟩ : ∃ Wf, ((W1.setCell ⟨w.heap.size + 1, 0, none⟩ (.int .i64 W)).setCell ⟨w.heap.size + 1, 1, none⟩ (.int .i64 H)).setCell ⟨w.heap.size + 1, 2, none⟩ (.slice (some ⟨w.heap.size + 1 + 1, 0, none⟩) N N) = Wf := ⟨_, rfl⟩
    rw [hWf] at kr kz' hK' hb' ⊢
    clear hWf
    have kr2 := kr.own (grownBy_putObj' Wf D (.deferred none)) (fun r e => by cases e; exact ⟨_, hK', rfl⟩)
    have kz2 := kz'.own (grownBy_putObj' Wf D (.deferred none)) (fun r e => by cases e; exact ⟨_, hK', rfl⟩)
    have er := kr2.read.1
    refine ⟨by simp, .inl ⟨_, _, rfl, run_takeDeferred hK', ?_⟩⟩
    refine ⟨.agg #[.int .i64 W, .int .i64 H, .slice (some ⟨w.heap.size + 1 + 1, 0, none⟩) N N], ?_, _, rfl, by omega, kz2, hb'.trans (belowK_b (w := w) (Nat.le_refl _) Wf D _ _ (by omega) hK' rfl rfl)⟩
    simp only [results, Try.results53]
    go_simp
  case stop =>
    rintro D c pre W1 _ _ h _
    exact h.elim

/-- The new image of the values that a function gives for its places. -/
theorem build_any (W H : Int) (N : Nat) (f : FuncId) (cap : Array Value) (V : Nat → Int) (hN : W * H = (N : Int)) (w0 : 1 ≤ W) (w1 : W ≤ 16) (h0 : 1 ≤ H) (h1 : H ≤ 16) (N1 : N ≤ 256)
    (ef : ∀ args w, (callFunc f args).run Try.prog w = .ok (.enter f args) w) (w : World)
    (HV : Hid (∀ k, k < N → ∀ W1, Below w.heap.size w W1 → Calls Try.prog f (#[.agg #[.int .i64 ((k : Int) % W), .int .i64 ((k : Int) / W)]] ++ cap) W1 fun e W2 => e = .returned (.int .i64 (V k)) ∧ Below W1.heap.size W1 W2)) :
    Calls Try.prog 53 #[.int .i64 W, .int .i64 H, .func (.func f) #[] cap] w fun e w' => ∃ b, e = .returned (.agg #[.int .i64 W, .int .i64 H, .slice (some ⟨b, 0, none⟩) N N]) ∧ w.heap.size ≤ b ∧ Blk w' b (ints ((List.range N).map fun k => inR (V k) (-2147483648) 2147483648)) 3 ∧ Below w.heap.size w w' :=
  (callsIn_wide (n := 9)).1 (build_in 9 (by omega) W H N f cap V hN w0 w1 h0 h1 N1 ef w HV)
end Go.Proofs.Ytghmjdmiaajbnaa
