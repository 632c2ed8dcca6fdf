/-
  The texts that the laws of this seat share, merged: part 2.
-/
import Derived.BigQuiet
import Derived.Deep.Draws
import Derived.Deep.QuietTactic
import Derived.Deep.RegionHeld3
import Derived.Laws.AppendOwn
import Derived.Lib.Hide
import Derived.LoopIn
import Derived.LoopNIn
import Derived.OneCell
import Derived.OwnWalkIn
import Derived.RangeFuncBound
import Derived.RangeFuncCalls
import Derived.RangeFuncLeaves
import Derived.RangeFuncNested
import Derived.Shelf.Abstract
import Derived.Shelf.AbstractIn
import Derived.Shelf.RegionOpen
import Derived.StillTailTactics
import Derived.TacticsInMore
import Derived.Test.YtghmjdmiaajbnaaProg
import Derived.WalkKit
import Derived.WalkSmall
import Derived.WalkSpells
import Derived.Test.YtghmjdmiaajbnaaM1
/-
  Layer 2: whether a shape is valid, by the code and by the document.
-/
namespace Go.Proofs.Ytghmjdmiaajbnaa
open Go.RowKit
set_option linter.unusedVariables false
set_option linter.unusedSimpArgs false

/-- A number may be a side of a kernel or of a shape. -/
def okK (n : Int) : Prop := n = 1 ∨ n = 3 ∨ n = 5
instance (n : Int) : Decidable (okK n) := inferInstanceAs (Decidable (_ ∨ _))
set_option maxHeartbeats 400000 in
theorem isKernelSide_any (n : Int) (w : World) :
    Calls Try.prog 103 #[.int .i64 n] w fun e w' => e = .returned (.bool (decide (okK n))) ∧ w = w' := by
  by_cases h1 : 1 ≤ n
  · by_cases h5 : n ≤ 5
    · have hc : n = 1 ∨ n = 2 ∨ n = 3 ∨ n = 4 ∨ n = 5 := by omega
      clear h1 h5
      rcases hc with rfl | rfl | rfl | rfl | rfl
      all_goals
        go_enter Try.func103, Try.ntmps103
        go_wp2
        go_ret
        exact ⟨rfl, rfl⟩
    · have hf : ¬ okK n := by unfold okK; omega
      rw [decide_eq_false hf]
      clear hf
      have h5' : 5 < n := by omega
      clear h5
      go_enter Try.func103, Try.ntmps103
      go_wp2
      go_ret
      exact ⟨rfl, rfl⟩
  · have hf : ¬ okK n := by unfold okK; omega
    rw [decide_eq_false hf]
    clear hf
    have h1' : n < 1 := by omega
    clear h1
    go_enter Try.func103, Try.ntmps103
    go_wp2
    go_ret
    exact ⟨rfl, rfl⟩
set_option maxHeartbeats 400000 in
theorem rkside_any (n : Int) (w : World) :
    Calls Try.prog 91 #[.int .i64 n] w fun e w' => e = .returned (.bool (decide (okK n))) ∧ w = w' := by
  by_cases h : okK n
  · rcases h with rfl | rfl | rfl
    all_goals
      go_enter Try.func91, Try.ntmps91
      go_wp2
      go_ret
      exact ⟨rfl, rfl⟩
  · rw [decide_eq_false h]
    have h1 : (n == 1) = false := by simp; intro e; exact h (.inl e)
    have h3 : (n == 3) = false := by simp; intro e; exact h (.inr (.inl e))
    have h5 : (n == 5) = false := by simp; intro e; exact h (.inr (.inr e))
    clear h
    go_enter Try.func91, Try.ntmps91
    go_wp2
    go_ret
    exact ⟨by first | rfl | simp [h1, h3, h5], rfl⟩

/-- A shape with these sides and cells is valid. -/
def okSh (W H : Int) (bs : List Bool) : Prop := (okK W ∧ okK H) ∧ (bs.length : Int) = W * H ∧ true ∈ bs
instance (W H : Int) (bs : List Bool) : Decidable (okSh W H bs) := inferInstanceAs (Decidable (_ ∧ _))
theorem okK_mul {W H : Int} (h1 : okK W) (h2 : okK H) : 1 ≤ W * H ∧ W * H ≤ 25 := by
  rcases h1 with rfl | rfl | rfl <;> rcases h2 with rfl | rfl | rfl <;> omega
def NoneUp (bs : List Bool) (k : Nat) : Prop := true ∉ bs.take k
theorem NoneUp.zero (bs : List Bool) : NoneUp bs 0 := fun h => by simp at h
theorem NoneUp.snoc {bs : List Bool} {k : Nat} (h : NoneUp bs k) (hz : bs[k]? = some false) : NoneUp bs (k + 1) := by
  unfold NoneUp
  rw [List.take_add_one, hz]
  intro hx
  rcases List.mem_append.1 hx with k | k
  · exact h k
  · simp at k
theorem NoneUp.all {bs : List Bool} {k : Nat} (h : NoneUp bs k) (hk : bs.length ≤ k) : true ∉ bs := by
  unfold NoneUp at h; rwa [List.take_of_length_le hk] at h

set_option maxHeartbeats 1000000 in
theorem isShape_any (W H : Int) (a : Option Addr) (n c : Nat) (bs : List Bool) (hn : n ≤ maxLen) (w : World) (hR : Row w a n (bv bs)) :
    Calls Try.prog 108 #[.agg #[.int .i64 W, .int .i64 H, .slice a n c]] w fun e w' => e = .returned (.bool (decide (okSh W H bs))) ∧ Below w.heap.size w w' := by
  unfold maxLen at hn
  have hlen : bs.length = n := by have := hR.1; rwa [bv_length] at this
  have HR := Lib.hid hR
  clear hR
  by_cases hW : okK W
  · have dW : decide (okK W) = true := decide_eq_true hW
    by_cases hH : okK H
    · have dH : decide (okK H) = true := decide_eq_true hH
      have hm := okK_mul hW hH
      by_cases hL : (n : Int) = W * H
      · have hl : ((n : Int) != W * H) = false := by simpa using hL
        have HO : Hid ((okK W ∧ okK H) ∧ (bs.length : Int) = W * H) := ⟨⟨hW, hH⟩, by rw [hlen]; exact hL⟩
        have HN := Lib.hid hlen
        clear hlen hL hW hH
        go_enter Try.func108, Try.ntmps108
        go_wp2_with (go_at_call 103; (with_reducible refine (isKernelSide_any _ _).mono ?_); rintro e w1 ⟨rfl, rfl⟩)
        go_loop [29] (fun i => ∃ k : Nat, k ≤ n ∧ i = .int .i64 k ∧ Hid (NoneUp bs k)) (fun i => n - (intOf i).toNat)
        case atStart => exact ⟨0, Nat.zero_le _, rfl, NoneUp.zero bs⟩
        case round =>
          obtain ⟨k, hk, rfl, hu⟩ := hrel
          by_cases hlt : k < n
          · obtain ⟨b, off, z, rfl, -, hz, hc⟩ := HR.out.bool hlt
            have hc := cell_alloc (o := .cells #[.int .i64 W, .int .i64 H, .slice (some ⟨b, off, none⟩) n c] 43) hc
            cases z
            · have hu' : Hid (NoneUp bs (k + 1)) := hu.out.snoc hz
              clear hz
              go_wp2
              go_round
              case rel => exact ⟨k + 1, hlt, by go_num, hu'⟩
              case measure => simp [intOf]; omega
            · have he : decide (okSh W H bs) = true := decide_eq_true ⟨HO.out.1, HO.out.2, List.mem_of_getElem? hz⟩
              clear hz
              go_wp2
              go_ret
              exact ⟨by first | rfl | rw [he], by (repeat' (first | (with_reducible exact Below.refl _ _) | (with_reducible assumption) | (with_reducible refine belowThru ?_ (by assumption)) | (with_reducible refine belowAlloc ?_) | (with_reducible refine Below.setCell ?_ (by first | omega | (simp; done) | (simp; omega)) _) | (with_reducible refine Below.drew ?_) | (with_reducible refine below_drewN ?_ _)))⟩
          · have he : decide (okSh W H bs) = false := decide_eq_false (fun h => hu.out.all (by rw [HN.out]; omega) h.2.2)
            go_wp2
            go_ret
            exact ⟨by first | rfl | rw [he], by (repeat' (first | (with_reducible exact Below.refl _ _) | (with_reducible assumption) | (with_reducible refine belowThru ?_ (by assumption)) | (with_reducible refine belowAlloc ?_) | (with_reducible refine Below.setCell ?_ (by first | omega | (simp; done) | (simp; omega)) _) | (with_reducible refine Below.drew ?_) | (with_reducible refine below_drewN ?_ _)))⟩
      · have hl : ((n : Int) != W * H) = true := by simpa using hL
        have he : decide (okSh W H bs) = false := decide_eq_false (fun h => hL (by rw [← hlen]; exact h.2.1))
        clear hlen hL hW hH
        rw [he]
        clear he
        go_enter Try.func108, Try.ntmps108
        go_wp2_with (go_at_call 103; (with_reducible refine (isKernelSide_any _ _).mono ?_); rintro e w1 ⟨rfl, rfl⟩)
        go_ret
        exact ⟨rfl, by (repeat' (first | (with_reducible exact Below.refl _ _) | (with_reducible assumption) | (with_reducible refine belowThru ?_ (by assumption)) | (with_reducible refine belowAlloc ?_) | (with_reducible refine Below.setCell ?_ (by first | omega | (simp; done) | (simp; omega)) _) | (with_reducible refine Below.drew ?_) | (with_reducible refine below_drewN ?_ _)))⟩
    · have dH : decide (okK H) = false := decide_eq_false hH
      rw [decide_eq_false (fun h => hH h.1.2 : ¬ okSh W H bs)]
      clear hlen hW hH
      go_enter Try.func108, Try.ntmps108
      go_wp2_with (go_at_call 103; (with_reducible refine (isKernelSide_any _ _).mono ?_); rintro e w1 ⟨rfl, rfl⟩)
      go_ret
      exact ⟨rfl, by (repeat' (first | (with_reducible exact Below.refl _ _) | (with_reducible assumption) | (with_reducible refine belowThru ?_ (by assumption)) | (with_reducible refine belowAlloc ?_) | (with_reducible refine Below.setCell ?_ (by first | omega | (simp; done) | (simp; omega)) _) | (with_reducible refine Below.drew ?_) | (with_reducible refine below_drewN ?_ _)))⟩
  · have dW : decide (okK W) = false := decide_eq_false hW
    rw [decide_eq_false (fun h => hW h.1.1 : ¬ okSh W H bs)]
    clear hlen hW
    go_enter Try.func108, Try.ntmps108
    go_wp2_with (go_at_call 103; (with_reducible refine (isKernelSide_any _ _).mono ?_); rintro e w1 ⟨rfl, rfl⟩)
    go_ret
    exact ⟨rfl, by (repeat' (first | (with_reducible exact Below.refl _ _) | (with_reducible assumption) | (with_reducible refine belowThru ?_ (by assumption)) | (with_reducible refine belowAlloc ?_) | (with_reducible refine Below.setCell ?_ (by first | omega | (simp; done) | (simp; omega)) _) | (with_reducible refine Below.drew ?_) | (with_reducible refine below_drewN ?_ _)))⟩
set_option maxHeartbeats 1000000 in
theorem rvalidShape_any (W H : Int) (a : Option Addr) (n c : Nat) (bs : List Bool) (hn : n ≤ maxLen) (w : World) (hR : Row w a n (bv bs)) :
    Calls Try.prog 41 #[.agg #[.int .i64 W, .int .i64 H, .slice a n c]] w fun e w' => e = .returned (.bool (decide (okSh W H bs))) ∧ Below w.heap.size w w' := by
  unfold maxLen at hn
  have hlen : bs.length = n := by have := hR.1; rwa [bv_length] at this
  have HR := Lib.hid hR
  clear hR
  by_cases hW : okK W
  · have dW : decide (okK W) = true := decide_eq_true hW
    by_cases hH : okK H
    · have dH : decide (okK H) = true := decide_eq_true hH
      have hm := okK_mul hW hH
      by_cases hL : (n : Int) = W * H
      · have hl : ((n : Int) != W * H) = false := by simpa using hL
        have HO : Hid ((okK W ∧ okK H) ∧ (bs.length : Int) = W * H) := ⟨⟨hW, hH⟩, by rw [hlen]; exact hL⟩
        have HN := Lib.hid hlen
        clear hlen hL hW hH
        go_enter Try.func41, Try.ntmps41
        go_wp2_with (go_at_call 91; (with_reducible refine (rkside_any _ _).mono ?_); rintro e w1 ⟨rfl, rfl⟩)
        go_loop [3] (fun i => ∃ k : Nat, k ≤ n ∧ i = .int .i64 k ∧ Hid (NoneUp bs k)) (fun i => n - (intOf i).toNat)
        case atStart => exact ⟨0, Nat.zero_le _, rfl, NoneUp.zero bs⟩
        case round =>
          obtain ⟨k, hk, rfl, hu⟩ := hrel
          by_cases hlt : k < n
          · obtain ⟨b, off, z, rfl, -, hz, hc⟩ := HR.out.bool hlt
            have hc := cell_alloc (o := .cells #[.int .i64 W, .int .i64 H, .slice (some ⟨b, off, none⟩) n c] 43) hc
            cases z
            · have hu' : Hid (NoneUp bs (k + 1)) := hu.out.snoc hz
              clear hz
              go_wp2
              go_round
              case rel => exact ⟨k + 1, hlt, by go_num, hu'⟩
              case measure => simp [intOf]; omega
            · have he : decide (okSh W H bs) = true := decide_eq_true ⟨HO.out.1, HO.out.2, List.mem_of_getElem? hz⟩
              clear hz
              go_wp2
              go_ret
              exact ⟨by first | rfl | rw [he], by (repeat' (first | (with_reducible exact Below.refl _ _) | (with_reducible assumption) | (with_reducible refine belowThru ?_ (by assumption)) | (with_reducible refine belowAlloc ?_) | (with_reducible refine Below.setCell ?_ (by first | omega | (simp; done) | (simp; omega)) _) | (with_reducible refine Below.drew ?_) | (with_reducible refine below_drewN ?_ _)))⟩
          · have he : decide (okSh W H bs) = false := decide_eq_false (fun h => hu.out.all (by rw [HN.out]; omega) h.2.2)
            go_wp2
            go_ret
            exact ⟨by first | rfl | rw [he], by (repeat' (first | (with_reducible exact Below.refl _ _) | (with_reducible assumption) | (with_reducible refine belowThru ?_ (by assumption)) | (with_reducible refine belowAlloc ?_) | (with_reducible refine Below.setCell ?_ (by first | omega | (simp; done) | (simp; omega)) _) | (with_reducible refine Below.drew ?_) | (with_reducible refine below_drewN ?_ _)))⟩
      · have hl : ((n : Int) != W * H) = true := by simpa using hL
        have he : decide (okSh W H bs) = false := decide_eq_false (fun h => hL (by rw [← hlen]; exact h.2.1))
        clear hlen hL hW hH
        rw [he]
        clear he
        go_enter Try.func41, Try.ntmps41
        go_wp2_with (go_at_call 91; (with_reducible refine (rkside_any _ _).mono ?_); rintro e w1 ⟨rfl, rfl⟩)
        go_ret
        exact ⟨rfl, by (repeat' (first | (with_reducible exact Below.refl _ _) | (with_reducible assumption) | (with_reducible refine belowThru ?_ (by assumption)) | (with_reducible refine belowAlloc ?_) | (with_reducible refine Below.setCell ?_ (by first | omega | (simp; done) | (simp; omega)) _) | (with_reducible refine Below.drew ?_) | (with_reducible refine below_drewN ?_ _)))⟩
    · have dH : decide (okK H) = false := decide_eq_false hH
      rw [decide_eq_false (fun h => hH h.1.2 : ¬ okSh W H bs)]
      clear hlen hW hH
      go_enter Try.func41, Try.ntmps41
      go_wp2_with (go_at_call 91; (with_reducible refine (rkside_any _ _).mono ?_); rintro e w1 ⟨rfl, rfl⟩)
      go_ret
      exact ⟨rfl, by (repeat' (first | (with_reducible exact Below.refl _ _) | (with_reducible assumption) | (with_reducible refine belowThru ?_ (by assumption)) | (with_reducible refine belowAlloc ?_) | (with_reducible refine Below.setCell ?_ (by first | omega | (simp; done) | (simp; omega)) _) | (with_reducible refine Below.drew ?_) | (with_reducible refine below_drewN ?_ _)))⟩
  · have dW : decide (okK W) = false := decide_eq_false hW
    rw [decide_eq_false (fun h => hW h.1.1 : ¬ okSh W H bs)]
    clear hlen hW
    go_enter Try.func41, Try.ntmps41
    go_wp2_with (go_at_call 91; (with_reducible refine (rkside_any _ _).mono ?_); rintro e w1 ⟨rfl, rfl⟩)
    go_ret
    exact ⟨rfl, by (repeat' (first | (with_reducible exact Below.refl _ _) | (with_reducible assumption) | (with_reducible refine belowThru ?_ (by assumption)) | (with_reducible refine belowAlloc ?_) | (with_reducible refine Below.setCell ?_ (by first | omega | (simp; done) | (simp; omega)) _) | (with_reducible refine Below.drew ?_) | (with_reducible refine below_drewN ?_ _)))⟩

end Go.Proofs.Ytghmjdmiaajbnaa
/-
  Layer 2: quotients, rounded down; sources of a warp; whether a place is a pixel.
-/
namespace Go.Proofs.Ytghmjdmiaajbnaa
open Go.RowKit
set_option linter.unusedVariables false
set_option linter.unusedSimpArgs false

theorem ediv_unique {d q r q' r' : Int} (h : d * q + r = d * q' + r') (h0 : 0 ≤ r) (h1 : r < d) (h2 : 0 ≤ r') (h3 : r' < d) : q = q' := by
  have e : d * (q - q') = r' - r := by rw [Int.mul_sub]; omega
  rcases Int.lt_trichotomy (q - q') 0 with k | k | k
  · have := Int.mul_le_mul_of_nonneg_left (show q - q' ≤ -1 by omega) (show 0 ≤ d by omega)
    omega
  · omega
  · have := Int.mul_le_mul_of_nonneg_left (show 1 ≤ q - q' by omega) (show 0 ≤ d by omega)
    omega
/-- A quotient that is rounded down, out of the machine's own. -/
theorem floor_of (n d : Int) (hd : 1 ≤ d) : (n.tmod d < 0 → n / d = n.tdiv d - 1) ∧ (¬ n.tmod d < 0 → n / d = n.tdiv d) := by
  have h1 := Int.mul_tdiv_add_tmod n d
  have h2 := Int.mul_ediv_add_emod n d
  have h3 := Int.emod_nonneg n (show d ≠ 0 by omega)
  have h4 := Int.emod_lt_of_pos n (show 0 < d by omega)
  have h5 : n.tmod d < d ∧ -d < n.tmod d := by
    have e : n.tmod d = -((-n).tmod d) := by rw [Int.neg_tmod, Int.neg_neg]
    have q1 := Int.tmod_lt_of_pos n (show 0 < d by omega)
    have q2 := Int.tmod_lt_of_pos (-n) (show 0 < d by omega)
    omega
  constructor
  · intro h
    have e : n / d = (n.tdiv d - 1) := by
      have : d * (n / d) + n % d = d * (n.tdiv d - 1) + (n.tmod d + d) := by rw [h2, Int.mul_sub, Int.mul_one]; omega
      exact ediv_unique this h3 h4 (by omega) (by omega)
    exact e
  · intro h
    have : d * (n / d) + n % d = d * (n.tdiv d) + n.tmod d := by rw [h2, h1]
    exact ediv_unique this h3 h4 (by omega) (by omega)
theorem tdiv_in (n d : Int) (hd : 1 ≤ d) (m : Int) (h1 : -m ≤ n) (h2 : n ≤ m) : -m ≤ n.tdiv d ∧ n.tdiv d ≤ m := by
  have h0 := Int.natAbs_tdiv n d
  have h3 : (n.tdiv d).natAbs ≤ n.natAbs := by rw [h0]; exact Nat.div_le_self _ _
  omega
set_option maxHeartbeats 1000000 in
theorem quotient_any (n d : Int) (hd : 1 ≤ d) (h1 : -1152921504606846976 ≤ n) (h2 : n ≤ 1152921504606846976) (h3 : d ≤ 1152921504606846976) (w : World) :
    Calls Try.prog 56 #[.int .i64 n, .int .i64 d] w fun e w' => e = .returned (.int .i64 (n / d)) ∧ w = w' := by
  have f1 := (floor_of n d hd).1
  have f2 := (floor_of n d hd).2
  have hb := tdiv_in n d hd _ h1 h2
  have hw : IntKind.i64.wrap (n.tdiv d) = n.tdiv d := IntWalk.i64_in _ (by omega)
  have hz : ¬ d = 0 := by omega
  by_cases hm : n.tmod d < 0
  · have f := f1 hm
    have F := Lib.hid f
    clear f f1 f2
    go_enter Try.func56, Try.ntmps56
    go_wp2
    go_ret
    exact ⟨ret_int F.out.symm, rfl⟩
  · have f := f2 hm
    have F := Lib.hid f
    clear f f1 f2
    go_enter Try.func56, Try.ntmps56
    go_wp2
    go_ret
    exact ⟨ret_int F.out.symm, rfl⟩
/-- A number over another and one half, rounded down. -/
def rnd (n d : Int) : Int := (2 * n + d) / (2 * d)
set_option maxHeartbeats 1000000 in
theorem rounded_any (n d : Int) (hd : 1 ≤ d) (h1 : -1099511627776 ≤ n) (h2 : n ≤ 1099511627776) (h3 : d ≤ 1099511627776) (w : World) :
    Calls Try.prog 111 #[.int .i64 n, .int .i64 d] w fun e w' => e = .returned (.int .i64 (rnd n d)) ∧ w = w' := by
  have HQ := Lib.hid (quotient_any (2 * n + d) (2 * d) (by omega) (by omega) (by omega) (by omega))
  unfold rnd
  go_enter Try.func111, Try.ntmps111
  go_wp2_with (go_at_call 56; (with_reducible refine (HQ.out _).mono ?_); rintro e w1 ⟨rfl, rfl⟩)
  go_ret
  exact ⟨rfl, rfl⟩
/-- A pair of numbers is a pixel. -/
def inP (W H x y : Int) : Prop := (0 ≤ x ∧ x < W) ∧ (0 ≤ y ∧ y < H)
instance (W H x y : Int) : Decidable (inP W H x y) := inferInstanceAs (Decidable (_ ∧ _))
set_option maxHeartbeats 1000000 in
theorem has_any (W H x y : Int) (a : Option Addr) (n c : Nat) (w : World) :
    Calls Try.prog 83 #[.agg #[.int .i64 W, .int .i64 H, .slice a n c], .agg #[.int .i64 x, .int .i64 y]] w fun e w' => e = .returned (.bool (decide (inP W H x y))) ∧ Below w.heap.size w w' := by
  by_cases h : inP W H x y
  · rw [decide_eq_true h]
    obtain ⟨⟨h1, h2⟩, h3, h4⟩ := h
    go_enter Try.func83, Try.ntmps83
    go_wp2
    go_ret
    exact ⟨rfl, by (repeat' (first | (with_reducible exact Below.refl _ _) | (with_reducible assumption) | (with_reducible refine belowThru ?_ (by assumption)) | (with_reducible refine belowAlloc ?_) | (with_reducible refine Below.setCell ?_ (by first | omega | (simp; done) | (simp; omega)) _) | (with_reducible refine Below.drew ?_) | (with_reducible refine below_drewN ?_ _)))⟩
  · rw [decide_eq_false h]
    by_cases h1 : 0 ≤ x
    · by_cases h2 : x < W
      · by_cases h3 : 0 ≤ y
        · have h4 : ¬ y < H := fun h4 => h ⟨⟨h1, h2⟩, h3, h4⟩
          clear h
          go_enter Try.func83, Try.ntmps83
          go_wp2
          go_ret
          exact ⟨rfl, by (repeat' (first | (with_reducible exact Below.refl _ _) | (with_reducible assumption) | (with_reducible refine belowThru ?_ (by assumption)) | (with_reducible refine belowAlloc ?_) | (with_reducible refine Below.setCell ?_ (by first | omega | (simp; done) | (simp; omega)) _) | (with_reducible refine Below.drew ?_) | (with_reducible refine below_drewN ?_ _)))⟩
        · clear h
          go_enter Try.func83, Try.ntmps83
          go_wp2
          go_ret
          exact ⟨rfl, by (repeat' (first | (with_reducible exact Below.refl _ _) | (with_reducible assumption) | (with_reducible refine belowThru ?_ (by assumption)) | (with_reducible refine belowAlloc ?_) | (with_reducible refine Below.setCell ?_ (by first | omega | (simp; done) | (simp; omega)) _) | (with_reducible refine Below.drew ?_) | (with_reducible refine below_drewN ?_ _)))⟩
      · clear h
        go_enter Try.func83, Try.ntmps83
        go_wp2
        go_ret
        exact ⟨rfl, by (repeat' (first | (with_reducible exact Below.refl _ _) | (with_reducible assumption) | (with_reducible refine belowThru ?_ (by assumption)) | (with_reducible refine belowAlloc ?_) | (with_reducible refine Below.setCell ?_ (by first | omega | (simp; done) | (simp; omega)) _) | (with_reducible refine Below.drew ?_) | (with_reducible refine below_drewN ?_ _)))⟩
    · clear h
      go_enter Try.func83, Try.ntmps83
      go_wp2
      go_ret
      exact ⟨rfl, by (repeat' (first | (with_reducible exact Below.refl _ _) | (with_reducible assumption) | (with_reducible refine belowThru ?_ (by assumption)) | (with_reducible refine belowAlloc ?_) | (with_reducible refine Below.setCell ?_ (by first | omega | (simp; done) | (simp; omega)) _) | (with_reducible refine Below.drew ?_) | (with_reducible refine below_drewN ?_ _)))⟩
end Go.Proofs.Ytghmjdmiaajbnaa
/-
  Layer 2: whether an image is valid, by the code and by the document.
-/
namespace Go.Proofs.Ytghmjdmiaajbnaa
open Go.RowKit
set_option linter.unusedVariables false
set_option linter.unusedSimpArgs false

set_option maxHeartbeats 1000000 in
theorem icheck_any (W H : Int) (a : Option Addr) (n c : Nat) (zs : List Int) (hn : n ≤ maxLen) (w : World) (hR : Row w a n (iv zs)) :
    Calls Try.prog 51 #[.agg #[.int .i64 W, .int .i64 H, .slice a n c]] w fun e w' => e = .returned (.int .i64 (ckI W H zs)) ∧ Below w.heap.size w w' := by
  unfold maxLen at hn
  have hlen : zs.length = n := by have := hR.1; rwa [iv_length] at this
  have HR := Lib.hid hR
  clear hR
  by_cases hW : okS W
  · have dW : decide (okS W) = true := decide_eq_true hW
    by_cases hH : okS H
    · have dH : decide (okS H) = true := decide_eq_true hH
      have hm := okS_mul hW hH
      by_cases hL : (n : Int) = W * H
      · have hl : ((n : Int) != W * H) = false := by simpa using hL
        have HO : Hid ((okS W ∧ okS H) ∧ (zs.length : Int) = W * H) := ⟨⟨hW, hH⟩, by rw [hlen]; exact hL⟩
        have HN := Lib.hid hlen
        clear hlen hL hW hH
        go_enter Try.func51, Try.ntmps51
        go_wp2_with (go_at_call 79; (with_reducible refine (isSide_any _ _).mono ?_); rintro e w1 ⟨rfl, rfl⟩)
        go_loop [29] (fun i => ∃ k : Nat, k ≤ n ∧ i = .int .i64 k ∧ Hid (Upto zs k)) (fun i => n - (intOf i).toNat)
        case atStart => exact ⟨0, Nat.zero_le _, rfl, Upto.zero zs⟩
        case round =>
          obtain ⟨k, hk, rfl, hu⟩ := hrel
          by_cases hlt : k < n
          · obtain ⟨b, off, z, rfl, -, hz, hc⟩ := HR.out.int hlt
            have hc := cell_alloc (o := .cells #[.int .i64 W, .int .i64 H, .slice (some ⟨b, off, none⟩) n c] 24) hc
            by_cases hv : okV z
            · have dv : decide (okV z) = true := decide_eq_true hv
              have hu' : Hid (Upto zs (k + 1)) := hu.out.snoc hz hv
              clear hz hv
              go_wp2_with (go_at_call 80; (with_reducible refine (isValue_any _ _).mono ?_); rintro e w1 ⟨rfl, rfl⟩)
              go_round
              case rel => exact ⟨k + 1, hlt, by go_num, hu'⟩
              case measure => simp [intOf]; omega
            · have dv : decide (okV z) = false := decide_eq_false hv
              have he : ckI W H zs = 20 := ckI_no (fun h => hv (h.2.2 z (List.mem_of_getElem? hz)))
              clear hz hv
              go_wp2_with (go_at_call 80; (with_reducible refine (isValue_any _ _).mono ?_); rintro e w1 ⟨rfl, rfl⟩)
              go_ret
              exact ⟨by first | rfl | exact ret_int he.symm, by (repeat' (first | (with_reducible exact Below.refl _ _) | (with_reducible assumption) | (with_reducible refine belowThru ?_ (by assumption)) | (with_reducible refine belowAlloc ?_) | (with_reducible refine Below.setCell ?_ (by first | omega | (simp; done) | (simp; omega)) _) | (with_reducible refine Below.drew ?_) | (with_reducible refine below_drewN ?_ _)))⟩
          · have he : ckI W H zs = 0 := ckI_ok ⟨HO.out.1, HO.out.2, hu.out.all (by rw [HN.out]; omega)⟩
            go_wp2
            go_ret
            exact ⟨by first | rfl | exact ret_int he.symm, by (repeat' (first | (with_reducible exact Below.refl _ _) | (with_reducible assumption) | (with_reducible refine belowThru ?_ (by assumption)) | (with_reducible refine belowAlloc ?_) | (with_reducible refine Below.setCell ?_ (by first | omega | (simp; done) | (simp; omega)) _) | (with_reducible refine Below.drew ?_) | (with_reducible refine below_drewN ?_ _)))⟩
      · have hl : ((n : Int) != W * H) = true := by simpa using hL
        have he : ckI W H zs = 20 := ckI_no (fun h => hL (by rw [← hlen]; exact h.2.1))
        clear hlen hL hW hH
        rw [he]
        clear he
        go_enter Try.func51, Try.ntmps51
        go_wp2_with (go_at_call 79; (with_reducible refine (isSide_any _ _).mono ?_); rintro e w1 ⟨rfl, rfl⟩)
        go_ret
        exact ⟨rfl, by (repeat' (first | (with_reducible exact Below.refl _ _) | (with_reducible assumption) | (with_reducible refine belowThru ?_ (by assumption)) | (with_reducible refine belowAlloc ?_) | (with_reducible refine Below.setCell ?_ (by first | omega | (simp; done) | (simp; omega)) _) | (with_reducible refine Below.drew ?_) | (with_reducible refine below_drewN ?_ _)))⟩
    · have dH : decide (okS H) = false := decide_eq_false hH
      rw [ckI_no (fun h => hH h.1.2)]
      clear hlen hW hH
      go_enter Try.func51, Try.ntmps51
      go_wp2_with (go_at_call 79; (with_reducible refine (isSide_any _ _).mono ?_); rintro e w1 ⟨rfl, rfl⟩)
      go_ret
      exact ⟨rfl, by (repeat' (first | (with_reducible exact Below.refl _ _) | (with_reducible assumption) | (with_reducible refine belowThru ?_ (by assumption)) | (with_reducible refine belowAlloc ?_) | (with_reducible refine Below.setCell ?_ (by first | omega | (simp; done) | (simp; omega)) _) | (with_reducible refine Below.drew ?_) | (with_reducible refine below_drewN ?_ _)))⟩
  · have dW : decide (okS W) = false := decide_eq_false hW
    rw [ckI_no (fun h => hW h.1.1)]
    clear hlen hW
    go_enter Try.func51, Try.ntmps51
    go_wp2_with (go_at_call 79; (with_reducible refine (isSide_any _ _).mono ?_); rintro e w1 ⟨rfl, rfl⟩)
    go_ret
    exact ⟨rfl, by (repeat' (first | (with_reducible exact Below.refl _ _) | (with_reducible assumption) | (with_reducible refine belowThru ?_ (by assumption)) | (with_reducible refine belowAlloc ?_) | (with_reducible refine Below.setCell ?_ (by first | omega | (simp; done) | (simp; omega)) _) | (with_reducible refine Below.drew ?_) | (with_reducible refine below_drewN ?_ _)))⟩

/-! ### The document's own answer -/
set_option maxHeartbeats 400000 in
theorem rwithin_any (n lo hi : Int) (v : Bool) (hv : v = true ↔ lo ≤ n ∧ n ≤ hi) (w : World) :
    Calls Try.prog 92 #[.int .i64 n, .int .i64 lo, .int .i64 hi] w fun e w' => e = .returned (.bool v) ∧ w = w' := by
  cases v
  · by_cases h1 : lo ≤ n
    · have h2 : ¬ n ≤ hi := fun h2 => by have := hv.2 ⟨h1, h2⟩; cases this
      clear hv
      go_enter Try.func92, Try.ntmps92
      go_wp2
      go_ret
      exact ⟨rfl, rfl⟩
    · clear hv
      go_enter Try.func92, Try.ntmps92
      go_wp2
      go_ret
      exact ⟨rfl, rfl⟩
  · obtain ⟨h1, h2⟩ := hv.1 rfl
    clear hv
    go_enter Try.func92, Try.ntmps92
    go_wp2
    go_ret
    exact ⟨rfl, rfl⟩
theorem rside_any (n : Int) (w : World) : Calls Try.prog 92 #[.int .i64 n, .int .i64 1, .int .i64 16] w fun e w' => e = .returned (.bool (decide (okS n))) ∧ w = w' :=
  rwithin_any n 1 16 _ decide_eq_true_iff w
theorem rvalue_any (n : Int) (w : World) : Calls Try.prog 92 #[.int .i64 n, .int .i64 (-2147483648), .int .i64 2147483648] w fun e w' => e = .returned (.bool (decide (okV n))) ∧ w = w' :=
  rwithin_any n _ _ _ decide_eq_true_iff w

set_option maxHeartbeats 1000000 in
theorem rvalid_any (W H : Int) (a : Option Addr) (n c : Nat) (zs : List Int) (hn : n ≤ maxLen) (w : World) (hR : Row w a n (iv zs)) :
    Calls Try.prog 43 #[.agg #[.int .i64 W, .int .i64 H, .slice a n c]] w fun e w' => e = .returned (.bool (decide (okI W H zs))) ∧ Below w.heap.size w w' := by
  unfold maxLen at hn
  have hlen : zs.length = n := by have := hR.1; rwa [iv_length] at this
  have HR := Lib.hid hR
  clear hR
  by_cases hW : okS W
  · have dW : decide (okS W) = true := decide_eq_true hW
    by_cases hH : okS H
    · have dH : decide (okS H) = true := decide_eq_true hH
      have hm := okS_mul hW hH
      by_cases hL : (n : Int) = W * H
      · have hl : ((n : Int) != W * H) = false := by simpa using hL
        have HO : Hid ((okS W ∧ okS H) ∧ (zs.length : Int) = W * H) := ⟨⟨hW, hH⟩, by rw [hlen]; exact hL⟩
        have HN := Lib.hid hlen
        clear hlen hL hW hH
        go_enter Try.func43, Try.ntmps43
        go_wp2_with (go_at_call 92; (with_reducible refine (rside_any _ _).mono ?_); rintro e w1 ⟨rfl, rfl⟩)
        go_loop [3] (fun i => ∃ k : Nat, k ≤ n ∧ i = .int .i64 k ∧ Hid (Upto zs k)) (fun i => n - (intOf i).toNat)
        case atStart => exact ⟨0, Nat.zero_le _, rfl, Upto.zero zs⟩
        case round =>
          obtain ⟨k, hk, rfl, hu⟩ := hrel
          by_cases hlt : k < n
          · obtain ⟨b, off, z, rfl, -, hz, hc⟩ := HR.out.int hlt
            have hc := cell_alloc (o := .cells #[.int .i64 W, .int .i64 H, .slice (some ⟨b, off, none⟩) n c] 24) hc
            by_cases hv : okV z
            · have dv : decide (okV z) = true := decide_eq_true hv
              have hu' : Hid (Upto zs (k + 1)) := hu.out.snoc hz hv
              clear hz hv
              go_wp2_with (go_at_call 92; (with_reducible refine (rvalue_any _ _).mono ?_); rintro e w1 ⟨rfl, rfl⟩)
              go_round
              case rel => exact ⟨k + 1, hlt, by go_num, hu'⟩
              case measure => simp [intOf]; omega
            · have dv : decide (okV z) = false := decide_eq_false hv
              have he : decide (okI W H zs) = false := decide_eq_false (fun h => hv (h.2.2 z (List.mem_of_getElem? hz)))
              clear hz hv
              go_wp2_with (go_at_call 92; (with_reducible refine (rvalue_any _ _).mono ?_); rintro e w1 ⟨rfl, rfl⟩)
              go_ret
              exact ⟨by first | rfl | (rw [he]; rfl), by (repeat' (first | (with_reducible exact Below.refl _ _) | (with_reducible assumption) | (with_reducible refine belowThru ?_ (by assumption)) | (with_reducible refine belowAlloc ?_) | (with_reducible refine Below.setCell ?_ (by first | omega | (simp; done) | (simp; omega)) _) | (with_reducible refine Below.drew ?_) | (with_reducible refine below_drewN ?_ _)))⟩
          · have he : decide (okI W H zs) = true := decide_eq_true ⟨HO.out.1, HO.out.2, hu.out.all (by rw [HN.out]; omega)⟩
            go_wp2
            go_ret
            exact ⟨by first | rfl | (rw [he]; rfl), by (repeat' (first | (with_reducible exact Below.refl _ _) | (with_reducible assumption) | (with_reducible refine belowThru ?_ (by assumption)) | (with_reducible refine belowAlloc ?_) | (with_reducible refine Below.setCell ?_ (by first | omega | (simp; done) | (simp; omega)) _) | (with_reducible refine Below.drew ?_) | (with_reducible refine below_drewN ?_ _)))⟩
      · have hl : ((n : Int) != W * H) = true := by simpa using hL
        rw [decide_eq_false (fun h : okI W H zs => hL (by rw [← hlen]; exact h.2.1))]
        clear hlen hL hW hH
        go_enter Try.func43, Try.ntmps43
        go_wp2_with (go_at_call 92; (with_reducible refine (rside_any _ _).mono ?_); rintro e w1 ⟨rfl, rfl⟩)
        go_ret
        exact ⟨rfl, by (repeat' (first | (with_reducible exact Below.refl _ _) | (with_reducible assumption) | (with_reducible refine belowThru ?_ (by assumption)) | (with_reducible refine belowAlloc ?_) | (with_reducible refine Below.setCell ?_ (by first | omega | (simp; done) | (simp; omega)) _) | (with_reducible refine Below.drew ?_) | (with_reducible refine below_drewN ?_ _)))⟩
    · have dH : decide (okS H) = false := decide_eq_false hH
      rw [decide_eq_false (fun h : okI W H zs => hH h.1.2)]
      clear hlen hW hH
      go_enter Try.func43, Try.ntmps43
      go_wp2_with (go_at_call 92; (with_reducible refine (rside_any _ _).mono ?_); rintro e w1 ⟨rfl, rfl⟩)
      go_ret
      exact ⟨rfl, by (repeat' (first | (with_reducible exact Below.refl _ _) | (with_reducible assumption) | (with_reducible refine belowThru ?_ (by assumption)) | (with_reducible refine belowAlloc ?_) | (with_reducible refine Below.setCell ?_ (by first | omega | (simp; done) | (simp; omega)) _) | (with_reducible refine Below.drew ?_) | (with_reducible refine below_drewN ?_ _)))⟩
  · have dW : decide (okS W) = false := decide_eq_false hW
    rw [decide_eq_false (fun h : okI W H zs => hW h.1.1)]
    clear hlen hW
    go_enter Try.func43, Try.ntmps43
    go_wp2_with (go_at_call 92; (with_reducible refine (rside_any _ _).mono ?_); rintro e w1 ⟨rfl, rfl⟩)
    go_ret
    exact ⟨rfl, by (repeat' (first | (with_reducible exact Below.refl _ _) | (with_reducible assumption) | (with_reducible refine belowThru ?_ (by assumption)) | (with_reducible refine belowAlloc ?_) | (with_reducible refine Below.setCell ?_ (by first | omega | (simp; done) | (simp; omega)) _) | (with_reducible refine Below.drew ?_) | (with_reducible refine below_drewN ?_ _)))⟩
end Go.Proofs.Ytghmjdmiaajbnaa
/-
  Layer 2: pixels by their places; the source of a pixel in a warp.
-/
namespace Go.Proofs.Ytghmjdmiaajbnaa
open Go.RowKit
set_option linter.unusedVariables false
set_option linter.unusedSimpArgs false

/-- The value of a pixel. -/
def pixAt (W : Int) (zs : List Int) (x y : Int) : Int := zs[(y * W + x).toNat]?.getD 0
theorem inP_at {W H x y : Int} (hW : okS W) (hH : okS H) (h : inP W H x y) : ∃ p : Nat, y * W + x = (p : Int) ∧ (p : Int) < W * H ∧ 0 ≤ y * W ∧ y * W ≤ 256 := by
  obtain ⟨⟨x0, x1⟩, y0, y1⟩ := h
  obtain ⟨w0, w1⟩ := hW
  obtain ⟨h0, h1⟩ := hH
  have a := Int.mul_nonneg y0 (show 0 ≤ W by omega)
  have b := Int.mul_le_mul_of_nonneg_right (show y + 1 ≤ H by omega) (show 0 ≤ W by omega)
  have c := Int.mul_le_mul (show y ≤ 16 by omega) w1 (by omega) (by omega)
  have e : (y + 1) * W = y * W + W := by rw [Int.add_mul, Int.one_mul]
  have f : H * W = W * H := Int.mul_comm _ _
  exact ⟨(y * W + x).toNat, by omega, by omega, a, by omega⟩
set_option maxHeartbeats 1000000 in
/-- The value of a pixel of a valid image. -/
theorem at_z (W H x y : Int) (a : Option Addr) (n c : Nat) (zs : List Int) (hI : okI W H zs) (hp : inP W H x y) (w : World) (hR : Row w a n (iv zs)) :
    Calls Try.prog 57 #[.agg #[.int .i64 W, .int .i64 H, .slice a n c], .agg #[.int .i64 x, .int .i64 y]] w fun e w' => e = .returned (.int .i64 (pixAt W zs x y)) ∧ Below w.heap.size w w' := by
  obtain ⟨⟨hW, hH⟩, hL, -⟩ := hI
  obtain ⟨p, e, hlt, -, -⟩ := inP_at hW hH hp
  have hn : zs.length = n := by have := hR.1; rwa [iv_length] at this
  obtain ⟨b, off, z, rfl, -, hz, hc⟩ := hR.int (show p < n by omega)
  have hv : pixAt W zs x y = z := by unfold pixAt; rw [e, Int.toNat_natCast, hz]; rfl
  rw [hv]
  obtain ⟨⟨x0, x1⟩, y0, y1⟩ := hp
  obtain ⟨w0, w1⟩ := hW
  obtain ⟨h0, h1⟩ := hH
  exact at_any W H x y p b off n c z (Lib.hid e) y0 (by omega) (by omega) (by omega) x0 (by omega) (by omega) w hc
/-! ### The source of a pixel -/
/-- A number that may be a factor. -/
def okFa (n : Int) : Prop := -65536 ≤ n ∧ n ≤ 65536
instance (n : Int) : Decidable (okFa n) := inferInstanceAs (Decidable (_ ∧ _))
theorem fac_mul {t x : Int} (ht : okFa t) (h0 : 0 ≤ x) (h1 : x ≤ 64) : -4194304 ≤ t * x ∧ t * x ≤ 4194304 := by
  obtain ⟨a, b⟩ := ht
  have c := Int.mul_le_mul_of_nonneg_right b h0
  have d := Int.mul_le_mul_of_nonneg_right a h0
  have e := Int.mul_le_mul_of_nonneg_left h1 (show (0 : Int) ≤ 65536 by omega)
  omega
theorem alloc3 (w : World) (c0 : Array Value) (t0 : TypeId) (c1 : Array Value) (t1 : TypeId) (c2 : Array Value) (t2 : TypeId) :
    ∃ W0, ((w.alloc (.cells c0 t0)).alloc (.cells c1 t1)).alloc (.cells c2 t2) = W0 ∧ Blk W0 w.heap.size c0 t0 ∧ Blk W0 (w.heap.size + 1) c1 t1 ∧ Blk W0 (w.heap.size + 1 + 1) c2 t2 ∧ Below w.heap.size w W0 :=
  ⟨_, rfl, Blk.alloc (Blk.alloc (Blk.new rfl)), Blk.alloc (Blk.new (by simp)), Blk.new (by simp), by (repeat' (first | (with_reducible exact Below.refl _ _) | (with_reducible assumption) | (with_reducible refine belowThru ?_ (by assumption)) | (with_reducible refine belowAlloc ?_) | (with_reducible refine Below.setCell ?_ (by first | omega | (simp; done) | (simp; omega)) _) | (with_reducible refine Below.drew ?_) | (with_reducible refine below_drewN ?_ _)))⟩
set_option maxRecDepth 100000 in
set_option maxHeartbeats 2000000 in
theorem source_any (tA tB tC tD tE tF tG x y : Int) (hA : okFa tA) (hB : okFa tB) (hC : okFa tC) (hD : okFa tD) (hE : okFa tE) (hF : okFa tF) (g0 : 1 ≤ tG) (g1 : tG ≤ 65536) (x0 : 0 ≤ x) (x1 : x ≤ 64) (y0 : 0 ≤ y) (y1 : y ≤ 64) (w : World) :
    Calls Try.prog 82 #[.agg #[.int .i64 tA, .int .i64 tB, .int .i64 tC, .int .i64 tD, .int .i64 tE, .int .i64 tF, .int .i64 tG], .agg #[.int .i64 x, .int .i64 y]] w fun e w' => e = .returned (.agg #[.int .i64 (rnd (tA * x + tB * y + tC) tG), .int .i64 (rnd (tD * x + tE * y + tF) tG)]) ∧ Below w.heap.size w w' := by
  have a1 := fac_mul hA x0 x1; have b1 := fac_mul hB y0 y1; have d1 := fac_mul hD x0 x1; have e1 := fac_mul hE y0 y1
  obtain ⟨c1, c2⟩ := hC
  obtain ⟨f1, f2⟩ := hF
  have H1 := Lib.hid (rounded_any (tA * x + tB * y + tC) tG g0 (by omega) (by omega) (by omega))
  have H2 := Lib.hid (rounded_any (tD * x + tE * y + tF) tG g0 (by omega) (by omega) (by omega))
  have v1 : IntKind.i64.wrap (tA * x) = tA * x := IntWalk.i64_in _ (by omega)
  have v2 : IntKind.i64.wrap (tB * y) = tB * y := IntWalk.i64_in _ (by omega)
  have v3 : IntKind.i64.wrap (tA * x + tB * y) = tA * x + tB * y := IntWalk.i64_in _ (by omega)
  have v4 : IntKind.i64.wrap (tA * x + tB * y + tC) = tA * x + tB * y + tC := IntWalk.i64_in _ (by omega)
  have v5 : IntKind.i64.wrap (tD * x) = tD * x := IntWalk.i64_in _ (by omega)
  have v6 : IntKind.i64.wrap (tE * y) = tE * y := IntWalk.i64_in _ (by omega)
  have v7 : IntKind.i64.wrap (tD * x + tE * y) = tD * x + tE * y := IntWalk.i64_in _ (by omega)
  have v8 : IntKind.i64.wrap (tD * x + tE * y + tF) = tD * x + tE * y + tF := IntWalk.i64_in _ (by omega)
  clear hA hB hD hE
  go_enter Try.func82, Try.ntmps82
  go_wp2
  obtain ⟨W0, hW0, k0, k1, k2, hB⟩ := alloc3 w #[.int .i64 tA, .int .i64 tB, .int .i64 tC, .int .i64 tD, .int .i64 tE, .int .i64 tF, .int .i64 tG] 52 #[.int .i64 x, .int .i64 y] 83 #[.int .i64 0, .int .i64 0] 83
  rw [hW0]
  clear hW0
  obtain ⟨a0, b0⟩ := k0.read; obtain ⟨a1, b1⟩ := k1.read; obtain ⟨a2, b2⟩ := k2.read
  refine wp_region_still_tail 35 (by kernel_rfl) (by kernel_rfl) ?_
  simp only [List.take_succ_cons, List.take_zero, List.drop_succ_cons, List.drop_zero]
  repeat still_step
  still_call ((H1.out _).mono fun e w1 h => ⟨h.1, h.2.symm⟩)
  repeat still_step
  still_call ((H2.out _).mono fun e w1 h => ⟨h.1, h.2.symm⟩)
  repeat still_step
  refine wpStill_nil ?_
  go_wp2
  have k2' : Blk ((W0.drew.setCell ⟨w.heap.size + 1 + 1, 0, none⟩ (.int .i64 (rnd (tA * x + tB * y + tC) tG))).setCell ⟨w.heap.size + 1 + 1, 1, none⟩ (.int .i64 (rnd (tD * x + tE * y + tF) tG))) (w.heap.size + 1 + 1) #[.int .i64 (rnd (tA * x + tB * y + tC) tG), .int .i64 (rnd (tD * x + tE * y + tF) tG)] 83 := Blk.set (Blk.set k2.drew)
  have q2 := k2'.cells
  exact bodyPost_ret (v := .agg #[.int .i64 (rnd (tA * x + tB * y + tC) tG), .int .i64 (rnd (tD * x + tE * y + tF) tG)]) (by simp only [results, Try.results82]; go_simp) rfl ⟨rfl, by (repeat' (first | (with_reducible exact Below.refl _ _) | (with_reducible assumption) | (with_reducible refine belowThru ?_ (by assumption)) | (with_reducible refine belowAlloc ?_) | (with_reducible refine Below.setCell ?_ (by first | omega | (simp; done) | (simp; omega)) _) | (with_reducible refine Below.drew ?_) | (with_reducible refine below_drewN ?_ _)))⟩
end Go.Proofs.Ytghmjdmiaajbnaa
/-
  Layer 2: which warps are valid, by the code and by the document.
-/
namespace Go.Proofs.Ytghmjdmiaajbnaa
open Go.RowKit
set_option linter.unusedVariables false
set_option linter.unusedSimpArgs false

/-- A warp that is valid. -/
def okT (tA tB tC tD tE tF tG : Int) : Prop := (okFa tA ∧ okFa tB ∧ okFa tC ∧ okFa tD ∧ okFa tE ∧ okFa tF) ∧ 1 ≤ tG ∧ tG ≤ 65536
instance (tA tB tC tD tE tF tG : Int) : Decidable (okT tA tB tC tD tE tF tG) := inferInstanceAs (Decidable (_ ∧ _))
theorem within_fa (n : Int) (w : World) : Calls Try.prog 95 #[.int .i64 n, .int .i64 65536] w fun e w' => e = .returned (.bool (decide (okFa n))) ∧ w = w' := by
  by_cases h : okFa n
  · rw [decide_eq_true h]; exact within_yes n 65536 (by omega) (by omega) h w
  · rw [decide_eq_false h]; exact within_no n 65536 (by omega) (by omega) (by unfold okFa at h; omega) w
theorem rwithin_fa (n : Int) (w : World) : Calls Try.prog 92 #[.int .i64 n, .int .i64 (-65536), .int .i64 65536] w fun e w' => e = .returned (.bool (decide (okFa n))) ∧ w = w' :=
  rwithin_any n _ _ _ decide_eq_true_iff w
/-- What the first numbers of a warp are known to be. -/
def Six (tA tB tC tD tE tF k : Int) : Prop := (0 < k → okFa tA) ∧ (1 < k → okFa tB) ∧ (2 < k → okFa tC) ∧ (3 < k → okFa tD) ∧ (4 < k → okFa tE) ∧ (5 < k → okFa tF)
theorem Six.start (tA tB tC tD tE tF : Int) : Six tA tB tC tD tE tF 0 := ⟨fun h => absurd h (by omega), fun h => absurd h (by omega), fun h => absurd h (by omega), fun h => absurd h (by omega), fun h => absurd h (by omega), fun h => absurd h (by omega)⟩
theorem Six.all {tA tB tC tD tE tF : Int} (h : Six tA tB tC tD tE tF 6) : okFa tA ∧ okFa tB ∧ okFa tC ∧ okFa tD ∧ okFa tE ∧ okFa tF := ⟨h.1 (by omega), h.2.1 (by omega), h.2.2.1 (by omega), h.2.2.2.1 (by omega), h.2.2.2.2.1 (by omega), h.2.2.2.2.2 (by omega)⟩

theorem Six.s0 {tA tB tC tD tE tF : Int} (h : Six tA tB tC tD tE tF 0) (ok : okFa tA) : Six tA tB tC tD tE tF 1 := ⟨fun _ => ok, fun q => absurd q (by omega), fun q => absurd q (by omega), fun q => absurd q (by omega), fun q => absurd q (by omega), fun q => absurd q (by omega)⟩
theorem Six.s1 {tA tB tC tD tE tF : Int} (h : Six tA tB tC tD tE tF 1) (ok : okFa tB) : Six tA tB tC tD tE tF 2 := ⟨fun _ => h.1 (by omega), fun _ => ok, fun q => absurd q (by omega), fun q => absurd q (by omega), fun q => absurd q (by omega), fun q => absurd q (by omega)⟩
theorem Six.s2 {tA tB tC tD tE tF : Int} (h : Six tA tB tC tD tE tF 2) (ok : okFa tC) : Six tA tB tC tD tE tF 3 := ⟨fun _ => h.1 (by omega), fun _ => h.2.1 (by omega), fun _ => ok, fun q => absurd q (by omega), fun q => absurd q (by omega), fun q => absurd q (by omega)⟩
theorem Six.s3 {tA tB tC tD tE tF : Int} (h : Six tA tB tC tD tE tF 3) (ok : okFa tD) : Six tA tB tC tD tE tF 4 := ⟨fun _ => h.1 (by omega), fun _ => h.2.1 (by omega), fun _ => h.2.2.1 (by omega), fun _ => ok, fun q => absurd q (by omega), fun q => absurd q (by omega)⟩
theorem Six.s4 {tA tB tC tD tE tF : Int} (h : Six tA tB tC tD tE tF 4) (ok : okFa tE) : Six tA tB tC tD tE tF 5 := ⟨fun _ => h.1 (by omega), fun _ => h.2.1 (by omega), fun _ => h.2.2.1 (by omega), fun _ => h.2.2.2.1 (by omega), fun _ => ok, fun q => absurd q (by omega)⟩
theorem Six.s5 {tA tB tC tD tE tF : Int} (h : Six tA tB tC tD tE tF 5) (ok : okFa tF) : Six tA tB tC tD tE tF 6 := ⟨fun _ => h.1 (by omega), fun _ => h.2.1 (by omega), fun _ => h.2.2.1 (by omega), fun _ => h.2.2.2.1 (by omega), fun _ => h.2.2.2.2.1 (by omega), fun _ => ok⟩
theorem okT_no {tA tB tC tD tE tF tG : Int} (x : Int) (hx : ¬ okFa x) (hm : x = tA ∨ x = tB ∨ x = tC ∨ x = tD ∨ x = tE ∨ x = tF) : decide (okT tA tB tC tD tE tF tG) = false :=
  decide_eq_false (fun h => by obtain ⟨⟨a, b, c, d, e, f⟩, _⟩ := h; rcases hm with rfl | rfl | rfl | rfl | rfl | rfl <;> exact hx (by assumption))

set_option maxRecDepth 100000 in
set_option maxHeartbeats 4000000 in
theorem isWarp_any (tA tB tC tD tE tF tG : Int) (w : World) :
    Calls Try.prog 78 #[.agg #[.int .i64 tA, .int .i64 tB, .int .i64 tC, .int .i64 tD, .int .i64 tE, .int .i64 tF, .int .i64 tG]] w fun e w' => e = .returned (.bool (decide (okT tA tB tC tD tE tF tG))) ∧ Below w.heap.size w w' := by
  have i0 : ∀ w, (Instr.index 122 (.agg #[.int .i64 tA, .int .i64 tB, .int .i64 tC, .int .i64 tD, .int .i64 tE, .int .i64 tF]) (.int .i64 0)).run Try.prog w = .ok (.int .i64 tA) w := fun _ => by kernel_rfl
  have i1 : ∀ w, (Instr.index 122 (.agg #[.int .i64 tA, .int .i64 tB, .int .i64 tC, .int .i64 tD, .int .i64 tE, .int .i64 tF]) (.int .i64 1)).run Try.prog w = .ok (.int .i64 tB) w := fun _ => by kernel_rfl
  have i2 : ∀ w, (Instr.index 122 (.agg #[.int .i64 tA, .int .i64 tB, .int .i64 tC, .int .i64 tD, .int .i64 tE, .int .i64 tF]) (.int .i64 2)).run Try.prog w = .ok (.int .i64 tC) w := fun _ => by kernel_rfl
  have i3 : ∀ w, (Instr.index 122 (.agg #[.int .i64 tA, .int .i64 tB, .int .i64 tC, .int .i64 tD, .int .i64 tE, .int .i64 tF]) (.int .i64 3)).run Try.prog w = .ok (.int .i64 tD) w := fun _ => by kernel_rfl
  have i4 : ∀ w, (Instr.index 122 (.agg #[.int .i64 tA, .int .i64 tB, .int .i64 tC, .int .i64 tD, .int .i64 tE, .int .i64 tF]) (.int .i64 4)).run Try.prog w = .ok (.int .i64 tE) w := fun _ => by kernel_rfl
  have i5 : ∀ w, (Instr.index 122 (.agg #[.int .i64 tA, .int .i64 tB, .int .i64 tC, .int .i64 tD, .int .i64 tE, .int .i64 tF]) (.int .i64 5)).run Try.prog w = .ok (.int .i64 tF) w := fun _ => by kernel_rfl
  go_enter Try.func78, Try.ntmps78
  go_wp2
  go_loop [18] (fun i => ∃ k : Int, (0 ≤ k ∧ k ≤ 6) ∧ i = .int .i64 k ∧ Hid (Six tA tB tC tD tE tF k)) (fun i => (6 - intOf i).toNat)
  case atStart => exact ⟨0, by omega, rfl, Six.start _ _ _ _ _ _⟩
  case round =>
    obtain ⟨k, hk, rfl, hs⟩ := hrel
    have hc : k = 0 ∨ k = 1 ∨ k = 2 ∨ k = 3 ∨ k = 4 ∨ k = 5 ∨ k = 6 := by omega
    rcases hc with rfl | rfl | rfl | rfl | rfl | rfl | rfl
    · by_cases hv : okFa tA
      · have dv : decide (okFa tA) = true := decide_eq_true hv
        have hs' := Lib.hid (hs.out.s0 hv)
        clear hv
        go_wp2_with (go_at_call 95; (with_reducible refine (within_fa _ _).mono ?_); rintro e w1 ⟨rfl, rfl⟩)
        go_round
        case rel => exact ⟨1, by omega, rfl, hs'⟩
        case measure => simp [intOf]
      · have dv : decide (okFa tA) = false := decide_eq_false hv
        have he := okT_no (tA := tA) (tB := tB) (tC := tC) (tD := tD) (tE := tE) (tF := tF) (tG := tG) tA hv (by simp)
        clear hv
        go_wp2_with (go_at_call 95; (with_reducible refine (within_fa _ _).mono ?_); rintro e w1 ⟨rfl, rfl⟩)
        go_ret
        exact ⟨by first | rfl | (rw [he]; rfl), by (repeat' (first | (with_reducible exact Below.refl _ _) | (with_reducible assumption) | (with_reducible refine belowThru ?_ (by assumption)) | (with_reducible refine belowAlloc ?_) | (with_reducible refine Below.setCell ?_ (by first | omega | (simp; done) | (simp; omega)) _) | (with_reducible refine Below.drew ?_) | (with_reducible refine below_drewN ?_ _)))⟩
    · by_cases hv : okFa tB
      · have dv : decide (okFa tB) = true := decide_eq_true hv
        have hs' := Lib.hid (hs.out.s1 hv)
        clear hv
        go_wp2_with (go_at_call 95; (with_reducible refine (within_fa _ _).mono ?_); rintro e w1 ⟨rfl, rfl⟩)
        go_round
        case rel => exact ⟨2, by omega, rfl, hs'⟩
        case measure => simp [intOf]
      · have dv : decide (okFa tB) = false := decide_eq_false hv
        have he := okT_no (tA := tA) (tB := tB) (tC := tC) (tD := tD) (tE := tE) (tF := tF) (tG := tG) tB hv (by simp)
        clear hv
        go_wp2_with (go_at_call 95; (with_reducible refine (within_fa _ _).mono ?_); rintro e w1 ⟨rfl, rfl⟩)
        go_ret
        exact ⟨by first | rfl | (rw [he]; rfl), by (repeat' (first | (with_reducible exact Below.refl _ _) | (with_reducible assumption) | (with_reducible refine belowThru ?_ (by assumption)) | (with_reducible refine belowAlloc ?_) | (with_reducible refine Below.setCell ?_ (by first | omega | (simp; done) | (simp; omega)) _) | (with_reducible refine Below.drew ?_) | (with_reducible refine below_drewN ?_ _)))⟩
    · by_cases hv : okFa tC
      · have dv : decide (okFa tC) = true := decide_eq_true hv
        have hs' := Lib.hid (hs.out.s2 hv)
        clear hv
        go_wp2_with (go_at_call 95; (with_reducible refine (within_fa _ _).mono ?_); rintro e w1 ⟨rfl, rfl⟩)
        go_round
        case rel => exact ⟨3, by omega, rfl, hs'⟩
        case measure => simp [intOf]
      · have dv : decide (okFa tC) = false := decide_eq_false hv
        have he := okT_no (tA := tA) (tB := tB) (tC := tC) (tD := tD) (tE := tE) (tF := tF) (tG := tG) tC hv (by simp)
        clear hv
        go_wp2_with (go_at_call 95; (with_reducible refine (within_fa _ _).mono ?_); rintro e w1 ⟨rfl, rfl⟩)
        go_ret
        exact ⟨by first | rfl | (rw [he]; rfl), by (repeat' (first | (with_reducible exact Below.refl _ _) | (with_reducible assumption) | (with_reducible refine belowThru ?_ (by assumption)) | (with_reducible refine belowAlloc ?_) | (with_reducible refine Below.setCell ?_ (by first | omega | (simp; done) | (simp; omega)) _) | (with_reducible refine Below.drew ?_) | (with_reducible refine below_drewN ?_ _)))⟩
    · by_cases hv : okFa tD
      · have dv : decide (okFa tD) = true := decide_eq_true hv
        have hs' := Lib.hid (hs.out.s3 hv)
        clear hv
        go_wp2_with (go_at_call 95; (with_reducible refine (within_fa _ _).mono ?_); rintro e w1 ⟨rfl, rfl⟩)
        go_round
        case rel => exact ⟨4, by omega, rfl, hs'⟩
        case measure => simp [intOf]
      · have dv : decide (okFa tD) = false := decide_eq_false hv
        have he := okT_no (tA := tA) (tB := tB) (tC := tC) (tD := tD) (tE := tE) (tF := tF) (tG := tG) tD hv (by simp)
        clear hv
        go_wp2_with (go_at_call 95; (with_reducible refine (within_fa _ _).mono ?_); rintro e w1 ⟨rfl, rfl⟩)
        go_ret
        exact ⟨by first | rfl | (rw [he]; rfl), by (repeat' (first | (with_reducible exact Below.refl _ _) | (with_reducible assumption) | (with_reducible refine belowThru ?_ (by assumption)) | (with_reducible refine belowAlloc ?_) | (with_reducible refine Below.setCell ?_ (by first | omega | (simp; done) | (simp; omega)) _) | (with_reducible refine Below.drew ?_) | (with_reducible refine below_drewN ?_ _)))⟩
    · by_cases hv : okFa tE
      · have dv : decide (okFa tE) = true := decide_eq_true hv
        have hs' := Lib.hid (hs.out.s4 hv)
        clear hv
        go_wp2_with (go_at_call 95; (with_reducible refine (within_fa _ _).mono ?_); rintro e w1 ⟨rfl, rfl⟩)
        go_round
        case rel => exact ⟨5, by omega, rfl, hs'⟩
        case measure => simp [intOf]
      · have dv : decide (okFa tE) = false := decide_eq_false hv
        have he := okT_no (tA := tA) (tB := tB) (tC := tC) (tD := tD) (tE := tE) (tF := tF) (tG := tG) tE hv (by simp)
        clear hv
        go_wp2_with (go_at_call 95; (with_reducible refine (within_fa _ _).mono ?_); rintro e w1 ⟨rfl, rfl⟩)
        go_ret
        exact ⟨by first | rfl | (rw [he]; rfl), by (repeat' (first | (with_reducible exact Below.refl _ _) | (with_reducible assumption) | (with_reducible refine belowThru ?_ (by assumption)) | (with_reducible refine belowAlloc ?_) | (with_reducible refine Below.setCell ?_ (by first | omega | (simp; done) | (simp; omega)) _) | (with_reducible refine Below.drew ?_) | (with_reducible refine below_drewN ?_ _)))⟩
    · by_cases hv : okFa tF
      · have dv : decide (okFa tF) = true := decide_eq_true hv
        have hs' := Lib.hid (hs.out.s5 hv)
        clear hv
        go_wp2_with (go_at_call 95; (with_reducible refine (within_fa _ _).mono ?_); rintro e w1 ⟨rfl, rfl⟩)
        go_round
        case rel => exact ⟨6, by omega, rfl, hs'⟩
        case measure => simp [intOf]
      · have dv : decide (okFa tF) = false := decide_eq_false hv
        have he := okT_no (tA := tA) (tB := tB) (tC := tC) (tD := tD) (tE := tE) (tF := tF) (tG := tG) tF hv (by simp)
        clear hv
        go_wp2_with (go_at_call 95; (with_reducible refine (within_fa _ _).mono ?_); rintro e w1 ⟨rfl, rfl⟩)
        go_ret
        exact ⟨by first | rfl | (rw [he]; rfl), by (repeat' (first | (with_reducible exact Below.refl _ _) | (with_reducible assumption) | (with_reducible refine belowThru ?_ (by assumption)) | (with_reducible refine belowAlloc ?_) | (with_reducible refine Below.setCell ?_ (by first | omega | (simp; done) | (simp; omega)) _) | (with_reducible refine Below.drew ?_) | (with_reducible refine below_drewN ?_ _)))⟩
    · have ha := Lib.hid hs.out.all
      by_cases h1 : 1 ≤ tG
      · by_cases h2 : tG ≤ 65536
        · have he : decide (okT tA tB tC tD tE tF tG) = true := decide_eq_true ⟨ha.out, h1, h2⟩
          go_wp2
          go_ret
          exact ⟨by first | rfl | (rw [he]; rfl), by (repeat' (first | (with_reducible exact Below.refl _ _) | (with_reducible assumption) | (with_reducible refine belowThru ?_ (by assumption)) | (with_reducible refine belowAlloc ?_) | (with_reducible refine Below.setCell ?_ (by first | omega | (simp; done) | (simp; omega)) _) | (with_reducible refine Below.drew ?_) | (with_reducible refine below_drewN ?_ _)))⟩
        · have he : decide (okT tA tB tC tD tE tF tG) = false := decide_eq_false (fun h => h2 h.2.2)
          go_wp2
          go_ret
          exact ⟨by first | rfl | (rw [he]; rfl), by (repeat' (first | (with_reducible exact Below.refl _ _) | (with_reducible assumption) | (with_reducible refine belowThru ?_ (by assumption)) | (with_reducible refine belowAlloc ?_) | (with_reducible refine Below.setCell ?_ (by first | omega | (simp; done) | (simp; omega)) _) | (with_reducible refine Below.drew ?_) | (with_reducible refine below_drewN ?_ _)))⟩
      · have he : decide (okT tA tB tC tD tE tF tG) = false := decide_eq_false (fun h => h1 h.2.1)
        go_wp2
        go_ret
        exact ⟨by first | rfl | (rw [he]; rfl), by (repeat' (first | (with_reducible exact Below.refl _ _) | (with_reducible assumption) | (with_reducible refine belowThru ?_ (by assumption)) | (with_reducible refine belowAlloc ?_) | (with_reducible refine Below.setCell ?_ (by first | omega | (simp; done) | (simp; omega)) _) | (with_reducible refine Below.drew ?_) | (with_reducible refine below_drewN ?_ _)))⟩


end Go.Proofs.Ytghmjdmiaajbnaa
/-
  A region that draws its order within a round of a loop over an iterator, out of the same region's plain calculus.
-/
namespace Go.Proofs.Ytghmjdmiaajbnaa
open Go.RowKit
set_option linter.unusedVariables false
set_option linter.unusedSimpArgs false

variable {P : Program} {ops : Array Oper} {Q : Exit → Act → World → Prop} {md : Region.Mode}

theorem rowsIn_of_rows {n l : Nat} {row : String} {args : Array Value} {w : World} {R : Value → World → Prop} (h : Rows P row args w R) : RowsIn (Fence.wide.inRound l) n P row args w R :=
  fun c cs _ => let ⟨v, w', r, s⟩ := h c cs; ⟨v, w', r, stepsIn_wide.2 s⟩
theorem callsIn_of_calls {n l : Nat} {f : FuncId} {args : Array Value} {w : World} {R : Ending → World → Prop} (h : Calls P f args w R) : CallsIn (Fence.wide.inRound l) n P f args w R := CallsIn.inRound l (callsIn_wide.2 h)
/-- No operation of the region defers. -/
def noDefer (ops : Array Oper) : Bool := ops.all fun o => match o.op with | .defer _ => false | _ => true
theorem noDefer_spec (h : noDefer ops = true) {i : Nat} {o : Oper} (hi : ops[i]? = some o) : ∀ c, o.op ≠ .defer c := by
  intro c e
  obtain ⟨hlt, rfl⟩ := Array.getElem?_eq_some_iff.1 hi
  have := (Array.all_eq_true.1 h) i hlt
  rw [e] at this
  cases this
theorem upon_in {n l : Nat} {o : Oper} {a : Act} {K : Act → World → Prop} {r : Result Next} (h : o.upon P a K Q r) : o.uponIn (Fence.wide.inRound l) n P a K Q r := by
  cases r with
  | ok x w' =>
    cases x <;> simp only [Oper.upon] at h <;> simp only [Oper.uponIn] <;> first
      | exact h
      | exact ⟨fun h => (by cases h), callsIn_of_calls h⟩
      | exact ⟨fun h => (by cases h), rowsIn_of_rows h⟩
  | halt x w' => cases x <;> simp only [Oper.upon] at h <;> simp only [Oper.uponIn] <;> exact h
theorem wpOp_in {n l : Nat} {i : Nat} {K : Act → World → Prop} {a : Act} {w : World} (hnd : noDefer ops = true) (hout : ¬ LetsOut Q) (h : wpOp P ops Q i K a w) : wpOpIn (Fence.wide.inRound l) n P ops Q i K a w := by
  unfold wpOp at h
  unfold wpOpIn
  split
  · rename_i ho; simp only [ho] at h; exact h
  · rename_i o ho
    simp only [ho] at h
    split
    · rename_i hw
      simp only [hw, if_true] at h
      rcases h with h | h
      · refine ⟨fun _ _ => trivial, ?_⟩
        rw [Oper.semAt_eq _ _ _ (noDefer_spec hnd ho)]
        exact upon_in h
      · exact absurd h.2 hout
    · rename_i hw
      simp only [hw] at h
      exact ⟨fun _ _ => trivial, h⟩
theorem wpAny_in {n l : Nat} (hnd : noDefer ops = true) (hout : ¬ LetsOut Q) : ∀ (fuel : Nat) (listed : Array Bool) (a : Act) (w : World), wpAny P md ops Q fuel listed a w → wpAnyIn (Fence.wide.inRound l) n P md ops Q fuel listed a w
  | 0, _, _, _, h => h
  | fuel + 1, listed, a, w, h => ⟨h.1, fun i hi => wpOpIn_mono (fun a w h => wpAny_in hnd hout fuel _ a w h) (wpOp_in hnd hout (h.2 i hi))⟩
/-- Within a round: what is held of the world is shown once behind the draw, and anew behind each call and store. -/
theorem held_in {n l id : Nat} {a : Act} {w : World} (S : World → Prop) (hm : P.follows .mixedOrders = true) (hnd : noDefer ops = true) (hout : ¬ LetsOut Q) (hS : S w.drew)
    (h : S w.drew → wpAnyH P .any ops Q S ops.size (Array.replicate ops.size false) a w.drew) : (Code.region id ops true).wpIn (Fence.wide.inRound l) n P Q a w :=
  wpIn_region_any hm (wpAny_in hnd hout _ _ _ _ (wpAny_of_held _ _ _ _ (h hS)))
end Go.Proofs.Ytghmjdmiaajbnaa
