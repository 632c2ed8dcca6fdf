/-
  The texts that the laws of this seat share, merged: part 12.
-/
import Derived.BigQuiet
import Derived.Deep.CutRange
import Derived.Deep.DeepCutAuto
import Derived.Deep.Draws
import Derived.Deep.OwnRows
import Derived.Deep.QuietTactic
import Derived.Deep.RegionHeld3
import Derived.Laws.AppendOwn
import Derived.Lib.Hide
import Derived.LoopIn
import Derived.LoopNIn
import Derived.MapKept
import Derived.Maps.AppendAt
import Derived.OneCell
import Derived.OwnWalkIn
import Derived.RangeFuncBound
import Derived.RangeFuncCalls
import Derived.RangeFuncLeaves
import Derived.RangeFuncNested
import Derived.Shelf.Abstract
import Derived.Shelf.AbstractIn
import Derived.Shelf.RegionOpen
import Derived.StillTailTactics
import Derived.TacticsInMore
import Derived.Test.YtghmjdmiaajbnaaProg
import Derived.WalkKit
import Derived.WalkSmall
import Derived.WalkSpells
import Derived.Test.YtghmjdmiaajbnaaM1
import Derived.Test.YtghmjdmiaajbnaaM2
import Derived.Test.YtghmjdmiaajbnaaM5
import Derived.Test.YtghmjdmiaajbnaaM7
/-
  Layer 2: whether a shape is valid, by the code and by the document.
-/
namespace Go.Proofs.Ytghmjdmiaajbnaa
open Go.RowKit
set_option linter.unusedVariables false
set_option linter.unusedSimpArgs false

/-- A number may be a side of a kernel or of a shape. -/
def okK (n : Int) : Prop := n = 1 ∨ n = 3 ∨ n = 5
instance (n : Int) : Decidable (okK n) := inferInstanceAs (Decidable (_ ∨ _))
set_option maxHeartbeats 400000 in
theorem isKernelSide_any (n : Int) (w : World) :
    Calls Try.prog 103 #[.int .i64 n] w fun e w' => e = .returned (.bool (decide (okK n))) ∧ w = w' := by
  by_cases h1 : 1 ≤ n
  · by_cases h5 : n ≤ 5
    · have hc : n = 1 ∨ n = 2 ∨ n = 3 ∨ n = 4 ∨ n = 5 := by omega
      clear h1 h5
      rcases hc with rfl | rfl | rfl | rfl | rfl
      all_goals
        go_enter Try.func103, Try.ntmps103
        go_wp2
        go_ret
        exact ⟨rfl, rfl⟩
    · have hf : ¬ okK n := by unfold okK; omega
      rw [decide_eq_false hf]
      clear hf
      have h5' : 5 < n := by omega
      clear h5
      go_enter Try.func103, Try.ntmps103
      go_wp2
      go_ret
      exact ⟨rfl, rfl⟩
  · have hf : ¬ okK n := by unfold okK; omega
    rw [decide_eq_false hf]
    clear hf
    have h1' : n < 1 := by omega
    clear h1
    go_enter Try.func103, Try.ntmps103
    go_wp2
    go_ret
    exact ⟨rfl, rfl⟩
set_option maxHeartbeats 400000 in
theorem rkside_any (n : Int) (w : World) :
    Calls Try.prog 91 #[.int .i64 n] w fun e w' => e = .returned (.bool (decide (okK n))) ∧ w = w' := by
  by_cases h : okK n
  · rcases h with rfl | rfl | rfl
    all_goals
      go_enter Try.func91, Try.ntmps91
      go_wp2
      go_ret
      exact ⟨rfl, rfl⟩
  · rw [decide_eq_false h]
    have h1 : (n == 1) = false := by simp; intro e; exact h (.inl e)
    have h3 : (n == 3) = false := by simp; intro e; exact h (.inr (.inl e))
    have h5 : (n == 5) = false := by simp; intro e; exact h (.inr (.inr e))
    clear h
    go_enter Try.func91, Try.ntmps91
    go_wp2
    go_ret
    exact ⟨by first | rfl | simp [h1, h3, h5], rfl⟩

/-- A shape with these sides and cells is valid. -/
def okSh (W H : Int) (bs : List Bool) : Prop := (okK W ∧ okK H) ∧ (bs.length : Int) = W * H ∧ true ∈ bs
instance (W H : Int) (bs : List Bool) : Decidable (okSh W H bs) := inferInstanceAs (Decidable (_ ∧ _))
theorem okK_mul {W H : Int} (h1 : okK W) (h2 : okK H) : 1 ≤ W * H ∧ W * H ≤ 25 := by
  rcases h1 with rfl | rfl | rfl <;> rcases h2 with rfl | rfl | rfl <;> omega
def NoneUp (bs : List Bool) (k : Nat) : Prop := true ∉ bs.take k
theorem NoneUp.zero (bs : List Bool) : NoneUp bs 0 := fun h => by simp at h
theorem NoneUp.snoc {bs : List Bool} {k : Nat} (h : NoneUp bs k) (hz : bs[k]? = some false) : NoneUp bs (k + 1) := by
  unfold NoneUp
  rw [List.take_add_one, hz]
  intro hx
  rcases List.mem_append.1 hx with k | k
  · exact h k
  · simp at k
theorem NoneUp.all {bs : List Bool} {k : Nat} (h : NoneUp bs k) (hk : bs.length ≤ k) : true ∉ bs := by
  unfold NoneUp at h; rwa [List.take_of_length_le hk] at h

set_option maxHeartbeats 1000000 in
theorem isShape_any (W H : Int) (a : Option Addr) (n c : Nat) (bs : List Bool) (hn : n ≤ maxLen) (w : World) (hR : Row w a n (bv bs)) :
    Calls Try.prog 108 #[.agg #[.int .i64 W, .int .i64 H, .slice a n c]] w fun e w' => e = .returned (.bool (decide (okSh W H bs))) ∧ Below w.heap.size w w' := by
  unfold maxLen at hn
  have hlen : bs.length = n := by have := hR.1; rwa [bv_length] at this
  have HR := Lib.hid hR
  clear hR
  by_cases hW : okK W
  · have dW : decide (okK W) = true := decide_eq_true hW
    by_cases hH : okK H
    · have dH : decide (okK H) = true := decide_eq_true hH
      have hm := okK_mul hW hH
      by_cases hL : (n : Int) = W * H
      · have hl : ((n : Int) != W * H) = false := by simpa using hL
        have HO : Hid ((okK W ∧ okK H) ∧ (bs.length : Int) = W * H) := ⟨⟨hW, hH⟩, by rw [hlen]; exact hL⟩
        have HN := Lib.hid hlen
        clear hlen hL hW hH
        go_enter Try.func108, Try.ntmps108
        go_wp2_with (go_at_call 103; (with_reducible refine (isKernelSide_any _ _).mono ?_); rintro e w1 ⟨rfl, rfl⟩)
        go_loop [29] (fun i => ∃ k : Nat, k ≤ n ∧ i = .int .i64 k ∧ Hid (NoneUp bs k)) (fun i => n - (intOf i).toNat)
        case atStart => exact ⟨0, Nat.zero_le _, rfl, NoneUp.zero bs⟩
        case round =>
          obtain ⟨k, hk, rfl, hu⟩ := hrel
          by_cases hlt : k < n
          · obtain ⟨b, off, z, rfl, -, hz, hc⟩ := HR.out.bool hlt
            have hc := cell_alloc (o := .cells #[.int .i64 W, .int .i64 H, .slice (some ⟨b, off, none⟩) n c] 43) hc
            cases z
            · have hu' : Hid (NoneUp bs (k + 1)) := hu.out.snoc hz
              clear hz
              go_wp2
              go_round
              case rel => exact ⟨k + 1, hlt, by go_num, hu'⟩
              case measure => simp [intOf]; omega
            · have he : decide (okSh W H bs) = true := decide_eq_true ⟨HO.out.1, HO.out.2, List.mem_of_getElem? hz⟩
              clear hz
              go_wp2
              go_ret
              exact ⟨by first | rfl | rw [he], by (repeat' (first | (with_reducible exact Below.refl _ _) | (with_reducible assumption) | (with_reducible refine belowThru ?_ (by assumption)) | (with_reducible refine belowAlloc ?_) | (with_reducible refine Below.setCell ?_ (by first | omega | (simp; done) | (simp; omega)) _) | (with_reducible refine Below.drew ?_) | (with_reducible refine below_drewN ?_ _)))⟩
          · have he : decide (okSh W H bs) = false := decide_eq_false (fun h => hu.out.all (by rw [HN.out]; omega) h.2.2)
            go_wp2
            go_ret
            exact ⟨by first | rfl | rw [he], by (repeat' (first | (with_reducible exact Below.refl _ _) | (with_reducible assumption) | (with_reducible refine belowThru ?_ (by assumption)) | (with_reducible refine belowAlloc ?_) | (with_reducible refine Below.setCell ?_ (by first | omega | (simp; done) | (simp; omega)) _) | (with_reducible refine Below.drew ?_) | (with_reducible refine below_drewN ?_ _)))⟩
      · have hl : ((n : Int) != W * H) = true := by simpa using hL
        have he : decide (okSh W H bs) = false := decide_eq_false (fun h => hL (by rw [← hlen]; exact h.2.1))
        clear hlen hL hW hH
        rw [he]
        clear he
        go_enter Try.func108, Try.ntmps108
        go_wp2_with (go_at_call 103; (with_reducible refine (isKernelSide_any _ _).mono ?_); rintro e w1 ⟨rfl, rfl⟩)
        go_ret
        exact ⟨rfl, by (repeat' (first | (with_reducible exact Below.refl _ _) | (with_reducible assumption) | (with_reducible refine belowThru ?_ (by assumption)) | (with_reducible refine belowAlloc ?_) | (with_reducible refine Below.setCell ?_ (by first | omega | (simp; done) | (simp; omega)) _) | (with_reducible refine Below.drew ?_) | (with_reducible refine below_drewN ?_ _)))⟩
    · have dH : decide (okK H) = false := decide_eq_false hH
      rw [decide_eq_false (fun h => hH h.1.2 : ¬ okSh W H bs)]
      clear hlen hW hH
      go_enter Try.func108, Try.ntmps108
      go_wp2_with (go_at_call 103; (with_reducible refine (isKernelSide_any _ _).mono ?_); rintro e w1 ⟨rfl, rfl⟩)
      go_ret
      exact ⟨rfl, by (repeat' (first | (with_reducible exact Below.refl _ _) | (with_reducible assumption) | (with_reducible refine belowThru ?_ (by assumption)) | (with_reducible refine belowAlloc ?_) | (with_reducible refine Below.setCell ?_ (by first | omega | (simp; done) | (simp; omega)) _) | (with_reducible refine Below.drew ?_) | (with_reducible refine below_drewN ?_ _)))⟩
  · have dW : decide (okK W) = false := decide_eq_false hW
    rw [decide_eq_false (fun h => hW h.1.1 : ¬ okSh W H bs)]
    clear hlen hW
    go_enter Try.func108, Try.ntmps108
    go_wp2_with (go_at_call 103; (with_reducible refine (isKernelSide_any _ _).mono ?_); rintro e w1 ⟨rfl, rfl⟩)
    go_ret
    exact ⟨rfl, by (repeat' (first | (with_reducible exact Below.refl _ _) | (with_reducible assumption) | (with_reducible refine belowThru ?_ (by assumption)) | (with_reducible refine belowAlloc ?_) | (with_reducible refine Below.setCell ?_ (by first | omega | (simp; done) | (simp; omega)) _) | (with_reducible refine Below.drew ?_) | (with_reducible refine below_drewN ?_ _)))⟩
end Go.Proofs.Ytghmjdmiaajbnaa
/-
  Layer 2: whether a kernel is valid, by the code and by the document.
-/
namespace Go.Proofs.Ytghmjdmiaajbnaa
open Go.RowKit
set_option linter.unusedVariables false
set_option linter.unusedSimpArgs false

/-- A kernel with these sides and factors is valid. -/
def okKn (W H : Int) (zs : List Int) : Prop := (okK W ∧ okK H) ∧ (zs.length : Int) = W * H ∧ ∀ z ∈ zs, okFa z
instance (W H : Int) (zs : List Int) : Decidable (okKn W H zs) := inferInstanceAs (Decidable (_ ∧ _))
def UptoK (zs : List Int) (k : Nat) : Prop := ∀ z ∈ zs.take k, okFa z
theorem UptoK.zero (zs : List Int) : UptoK zs 0 := fun z h => by simp at h
theorem UptoK.snoc {zs : List Int} {k : Nat} {z : Int} (h : UptoK zs k) (hz : zs[k]? = some z) (ok : okFa z) : UptoK zs (k + 1) := by
  unfold UptoK
  rw [List.take_add_one, hz]
  intro x hx
  rcases List.mem_append.1 hx with k | k
  · exact h x k
  · simp at k; subst k; exact ok
theorem UptoK.all {zs : List Int} {k : Nat} (h : UptoK zs k) (hk : zs.length ≤ k) : ∀ z ∈ zs, okFa z := by
  unfold UptoK at h; rwa [List.take_of_length_le hk] at h

set_option maxHeartbeats 1000000 in
theorem isKernel_any (W H : Int) (a : Option Addr) (n c : Nat) (zs : List Int) (hn : n ≤ maxLen) (w : World) (hR : Row w a n (iv zs)) :
    Calls Try.prog 60 #[.agg #[.int .i64 W, .int .i64 H, .slice a n c]] w fun e w' => e = .returned (.bool (decide (okKn W H zs))) ∧ Below w.heap.size w w' := by
  unfold maxLen at hn
  have hlen : zs.length = n := by have := hR.1; rwa [iv_length] at this
  have HR := Lib.hid hR
  clear hR
  by_cases hW : okK W
  · have dW : decide (okK W) = true := decide_eq_true hW
    by_cases hH : okK H
    · have dH : decide (okK H) = true := decide_eq_true hH
      have hm := okK_mul hW hH
      by_cases hL : (n : Int) = W * H
      · have hl : ((n : Int) != W * H) = false := by simpa using hL
        have HO : Hid ((okK W ∧ okK H) ∧ (zs.length : Int) = W * H) := ⟨⟨hW, hH⟩, by rw [hlen]; exact hL⟩
        have HN := Lib.hid hlen
        clear hlen hL hW hH
        go_enter Try.func60, Try.ntmps60
        go_wp2_with (go_at_call 103; (with_reducible refine (isKernelSide_any _ _).mono ?_); rintro e w1 ⟨rfl, rfl⟩)
        go_loop [29] (fun i => ∃ k : Nat, k ≤ n ∧ i = .int .i64 k ∧ Hid (UptoK zs k)) (fun i => n - (intOf i).toNat)
        case atStart => exact ⟨0, Nat.zero_le _, rfl, UptoK.zero zs⟩
        case round =>
          obtain ⟨k, hk, rfl, hu⟩ := hrel
          by_cases hlt : k < n
          · obtain ⟨b, off, z, rfl, -, hz, hc⟩ := HR.out.int hlt
            have hc := cell_alloc (o := .cells #[.int .i64 W, .int .i64 H, .slice (some ⟨b, off, none⟩) n c] 36) hc
            by_cases hv : okFa z
            · have dv : decide (okFa z) = true := decide_eq_true hv
              have hu' : Hid (UptoK zs (k + 1)) := hu.out.snoc hz hv
              clear hz hv
              go_wp2_with (go_at_call 95; (with_reducible refine (within_fa _ _).mono ?_); rintro e w1 ⟨rfl, rfl⟩)
              go_round
              case rel => exact ⟨k + 1, hlt, by go_num, hu'⟩
              case measure => simp [intOf]; omega
            · have dv : decide (okFa z) = false := decide_eq_false hv
              have he : decide (okKn W H zs) = false := decide_eq_false (fun h => hv (h.2.2 z (List.mem_of_getElem? hz)))
              clear hz hv
              go_wp2_with (go_at_call 95; (with_reducible refine (within_fa _ _).mono ?_); rintro e w1 ⟨rfl, rfl⟩)
              go_ret
              exact ⟨by first | rfl | (rw [he]; rfl), by (repeat' (first | (with_reducible exact Below.refl _ _) | (with_reducible assumption) | (with_reducible refine belowThru ?_ (by assumption)) | (with_reducible refine belowAlloc ?_) | (with_reducible refine Below.setCell ?_ (by first | omega | (simp; done) | (simp; omega)) _) | (with_reducible refine Below.drew ?_) | (with_reducible refine below_drewN ?_ _)))⟩
          · have he : decide (okKn W H zs) = true := decide_eq_true ⟨HO.out.1, HO.out.2, hu.out.all (by rw [HN.out]; omega)⟩
            go_wp2
            go_ret
            exact ⟨by first | rfl | (rw [he]; rfl), by (repeat' (first | (with_reducible exact Below.refl _ _) | (with_reducible assumption) | (with_reducible refine belowThru ?_ (by assumption)) | (with_reducible refine belowAlloc ?_) | (with_reducible refine Below.setCell ?_ (by first | omega | (simp; done) | (simp; omega)) _) | (with_reducible refine Below.drew ?_) | (with_reducible refine below_drewN ?_ _)))⟩
      · have hl : ((n : Int) != W * H) = true := by simpa using hL
        have he : decide (okKn W H zs) = false := decide_eq_false (fun h => hL (by rw [← hlen]; exact h.2.1))
        clear hlen hL hW hH
        rw [he]
        clear he
        go_enter Try.func60, Try.ntmps60
        go_wp2_with (go_at_call 103; (with_reducible refine (isKernelSide_any _ _).mono ?_); rintro e w1 ⟨rfl, rfl⟩)
        go_ret
        exact ⟨rfl, by (repeat' (first | (with_reducible exact Below.refl _ _) | (with_reducible assumption) | (with_reducible refine belowThru ?_ (by assumption)) | (with_reducible refine belowAlloc ?_) | (with_reducible refine Below.setCell ?_ (by first | omega | (simp; done) | (simp; omega)) _) | (with_reducible refine Below.drew ?_) | (with_reducible refine below_drewN ?_ _)))⟩
    · have dH : decide (okK H) = false := decide_eq_false hH
      rw [decide_eq_false (fun h => hH h.1.2 : ¬ okKn W H zs)]
      clear hlen hW hH
      go_enter Try.func60, Try.ntmps60
      go_wp2_with (go_at_call 103; (with_reducible refine (isKernelSide_any _ _).mono ?_); rintro e w1 ⟨rfl, rfl⟩)
      go_ret
      exact ⟨rfl, by (repeat' (first | (with_reducible exact Below.refl _ _) | (with_reducible assumption) | (with_reducible refine belowThru ?_ (by assumption)) | (with_reducible refine belowAlloc ?_) | (with_reducible refine Below.setCell ?_ (by first | omega | (simp; done) | (simp; omega)) _) | (with_reducible refine Below.drew ?_) | (with_reducible refine below_drewN ?_ _)))⟩
  · have dW : decide (okK W) = false := decide_eq_false hW
    rw [decide_eq_false (fun h => hW h.1.1 : ¬ okKn W H zs)]
    clear hlen hW
    go_enter Try.func60, Try.ntmps60
    go_wp2_with (go_at_call 103; (with_reducible refine (isKernelSide_any _ _).mono ?_); rintro e w1 ⟨rfl, rfl⟩)
    go_ret
    exact ⟨rfl, by (repeat' (first | (with_reducible exact Below.refl _ _) | (with_reducible assumption) | (with_reducible refine belowThru ?_ (by assumption)) | (with_reducible refine belowAlloc ?_) | (with_reducible refine Below.setCell ?_ (by first | omega | (simp; done) | (simp; omega)) _) | (with_reducible refine Below.drew ?_) | (with_reducible refine below_drewN ?_ _)))⟩

set_option maxHeartbeats 1000000 in
theorem rkvalid_any (W H : Int) (a : Option Addr) (n c : Nat) (zs : List Int) (hn : n ≤ maxLen) (w : World) (hR : Row w a n (iv zs)) :
    Calls Try.prog 44 #[.agg #[.int .i64 W, .int .i64 H, .slice a n c]] w fun e w' => e = .returned (.bool (decide (okKn W H zs))) ∧ Below w.heap.size w w' := by
  unfold maxLen at hn
  have hlen : zs.length = n := by have := hR.1; rwa [iv_length] at this
  have HR := Lib.hid hR
  clear hR
  by_cases hW : okK W
  · have dW : decide (okK W) = true := decide_eq_true hW
    by_cases hH : okK H
    · have dH : decide (okK H) = true := decide_eq_true hH
      have hm := okK_mul hW hH
      by_cases hL : (n : Int) = W * H
      · have hl : ((n : Int) != W * H) = false := by simpa using hL
        have HO : Hid ((okK W ∧ okK H) ∧ (zs.length : Int) = W * H) := ⟨⟨hW, hH⟩, by rw [hlen]; exact hL⟩
        have HN := Lib.hid hlen
        clear hlen hL hW hH
        go_enter Try.func44, Try.ntmps44
        go_wp2_with (go_at_call 91; (with_reducible refine (rkside_any _ _).mono ?_); rintro e w1 ⟨rfl, rfl⟩)
        go_loop [3] (fun i => ∃ k : Nat, k ≤ n ∧ i = .int .i64 k ∧ Hid (UptoK zs k)) (fun i => n - (intOf i).toNat)
        case atStart => exact ⟨0, Nat.zero_le _, rfl, UptoK.zero zs⟩
        case round =>
          obtain ⟨k, hk, rfl, hu⟩ := hrel
          by_cases hlt : k < n
          · obtain ⟨b, off, z, rfl, -, hz, hc⟩ := HR.out.int hlt
            have hc := cell_alloc (o := .cells #[.int .i64 W, .int .i64 H, .slice (some ⟨b, off, none⟩) n c] 36) hc
            by_cases hv : okFa z
            · have dv : decide (okFa z) = true := decide_eq_true hv
              have hu' : Hid (UptoK zs (k + 1)) := hu.out.snoc hz hv
              clear hz hv
              go_wp2_with (go_at_call 92; (with_reducible refine (rwithin_fa _ _).mono ?_); rintro e w1 ⟨rfl, rfl⟩)
              go_round
              case rel => exact ⟨k + 1, hlt, by go_num, hu'⟩
              case measure => simp [intOf]; omega
            · have dv : decide (okFa z) = false := decide_eq_false hv
              have he : decide (okKn W H zs) = false := decide_eq_false (fun h => hv (h.2.2 z (List.mem_of_getElem? hz)))
              clear hz hv
              go_wp2_with (go_at_call 92; (with_reducible refine (rwithin_fa _ _).mono ?_); rintro e w1 ⟨rfl, rfl⟩)
              go_ret
              exact ⟨by first | rfl | (rw [he]; rfl), by (repeat' (first | (with_reducible exact Below.refl _ _) | (with_reducible assumption) | (with_reducible refine belowThru ?_ (by assumption)) | (with_reducible refine belowAlloc ?_) | (with_reducible refine Below.setCell ?_ (by first | omega | (simp; done) | (simp; omega)) _) | (with_reducible refine Below.drew ?_) | (with_reducible refine below_drewN ?_ _)))⟩
          · have he : decide (okKn W H zs) = true := decide_eq_true ⟨HO.out.1, HO.out.2, hu.out.all (by rw [HN.out]; omega)⟩
            go_wp2
            go_ret
            exact ⟨by first | rfl | (rw [he]; rfl), by (repeat' (first | (with_reducible exact Below.refl _ _) | (with_reducible assumption) | (with_reducible refine belowThru ?_ (by assumption)) | (with_reducible refine belowAlloc ?_) | (with_reducible refine Below.setCell ?_ (by first | omega | (simp; done) | (simp; omega)) _) | (with_reducible refine Below.drew ?_) | (with_reducible refine below_drewN ?_ _)))⟩
      · have hl : ((n : Int) != W * H) = true := by simpa using hL
        rw [decide_eq_false (fun h : okKn W H zs => hL (by rw [← hlen]; exact h.2.1))]
        clear hlen hL hW hH
        go_enter Try.func44, Try.ntmps44
        go_wp2_with (go_at_call 91; (with_reducible refine (rkside_any _ _).mono ?_); rintro e w1 ⟨rfl, rfl⟩)
        go_ret
        exact ⟨rfl, by (repeat' (first | (with_reducible exact Below.refl _ _) | (with_reducible assumption) | (with_reducible refine belowThru ?_ (by assumption)) | (with_reducible refine belowAlloc ?_) | (with_reducible refine Below.setCell ?_ (by first | omega | (simp; done) | (simp; omega)) _) | (with_reducible refine Below.drew ?_) | (with_reducible refine below_drewN ?_ _)))⟩
    · have dH : decide (okK H) = false := decide_eq_false hH
      rw [decide_eq_false (fun h : okKn W H zs => hH h.1.2)]
      clear hlen hW hH
      go_enter Try.func44, Try.ntmps44
      go_wp2_with (go_at_call 91; (with_reducible refine (rkside_any _ _).mono ?_); rintro e w1 ⟨rfl, rfl⟩)
      go_ret
      exact ⟨rfl, by (repeat' (first | (with_reducible exact Below.refl _ _) | (with_reducible assumption) | (with_reducible refine belowThru ?_ (by assumption)) | (with_reducible refine belowAlloc ?_) | (with_reducible refine Below.setCell ?_ (by first | omega | (simp; done) | (simp; omega)) _) | (with_reducible refine Below.drew ?_) | (with_reducible refine below_drewN ?_ _)))⟩
  · have dW : decide (okK W) = false := decide_eq_false hW
    rw [decide_eq_false (fun h : okKn W H zs => hW h.1.1)]
    clear hlen hW
    go_enter Try.func44, Try.ntmps44
    go_wp2_with (go_at_call 91; (with_reducible refine (rkside_any _ _).mono ?_); rintro e w1 ⟨rfl, rfl⟩)
    go_ret
    exact ⟨rfl, by (repeat' (first | (with_reducible exact Below.refl _ _) | (with_reducible assumption) | (with_reducible refine belowThru ?_ (by assumption)) | (with_reducible refine belowAlloc ?_) | (with_reducible refine Below.setCell ?_ (by first | omega | (simp; done) | (simp; omega)) _) | (with_reducible refine Below.drew ?_) | (with_reducible refine below_drewN ?_ _)))⟩
end Go.Proofs.Ytghmjdmiaajbnaa
/-
  Layer 2: the sums of a convolution.
-/
namespace Go.Proofs.Ytghmjdmiaajbnaa
open Go.RowKit
set_option linter.unusedVariables false
set_option linter.unusedSimpArgs false

/-- A product of a convolution, and the sum of the first of them. -/
def cvT (j W H : Int) (zs : List Int) (KW KH : Int) (ks : List Int) (x y : Int) (k : Nat) : Int :=
  ks[k]?.getD 0 * bey j W H zs (x - ((k : Int) % KW - KW / 2)) (y - ((k : Int) / KW - KH / 2))
def cvN (j W H : Int) (zs : List Int) (KW KH : Int) (ks : List Int) (x y : Int) : Nat → Int
  | 0 => 0
  | k + 1 => cvN j W H zs KW KH ks x y k + cvT j W H zs KW KH ks x y k
theorem pixAt_bd {W H : Int} {zs : List Int} (hI : okI W H zs) (x y : Int) : okV (pixAt W zs x y) := by
  unfold pixAt
  cases h : zs[(y * W + x).toNat]? with
  | none => exact ⟨by decide, by decide⟩
  | some z => exact hI.2.2 z (List.mem_of_getElem? h)
theorem bey_bd {j W H : Int} {zs : List Int} (hI : okI W H zs) (x y : Int) : okV (bey j W H zs x y) := by
  unfold bey
  split
  · exact pixAt_bd hI _ _
  · split
    · exact ⟨by decide, by decide⟩
    · split <;> exact pixAt_bd hI _ _
theorem fb_bd {f b : Int} (hf : okFa f) (hb : okV b) : -140737488355328 ≤ f * b ∧ f * b ≤ 140737488355328 := by
  have h0 := Int.natAbs_mul f b
  have h1 : f.natAbs ≤ 65536 := by unfold okFa at hf; omega
  have h2 : b.natAbs ≤ 2147483648 := by unfold okV at hb; omega
  have h3 := Nat.mul_le_mul h1 h2
  omega
theorem kn_get {KW KH : Int} {ks : List Int} (hK : okKn KW KH ks) (k : Nat) : okFa (ks[k]?.getD 0) := by
  cases h : ks[k]? with
  | none => exact ⟨by decide, by decide⟩
  | some z => exact hK.2.2 z (List.mem_of_getElem? h)
theorem cvT_bd {j W H KW KH : Int} {zs ks : List Int} (hI : okI W H zs) (hK : okKn KW KH ks) (x y : Int) (k : Nat) : -140737488355328 ≤ cvT j W H zs KW KH ks x y k ∧ cvT j W H zs KW KH ks x y k ≤ 140737488355328 :=
  fb_bd (kn_get hK k) (bey_bd hI _ _)
theorem cvN_fold (j W H : Int) (zs : List Int) (KW KH : Int) (ks : List Int) (x y : Int) (m : Nat) : (List.range m).foldl (fun p k => p + cvT j W H zs KW KH ks x y k) 0 = cvN j W H zs KW KH ks x y m := by
  induction m with
  | zero => rfl
  | succ m ih => rw [List.range_succ, List.foldl_append, ih]; rfl
theorem kn_sides {n : Int} (h : okK n) : 1 ≤ n ∧ n ≤ 5 := by unfold okK at h; omega
end Go.Proofs.Ytghmjdmiaajbnaa
