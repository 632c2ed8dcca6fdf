/-
  Layer 2: whether a shape is valid, by the code and by the document.
-/
import Derived.Test.YtihefdlolfpbnaaIRow
namespace Go.Proofs.Ytihefdlolfpbnaa
open Go.RowKit
set_option linter.unusedVariables false
set_option linter.unusedSimpArgs false

/-- A number may be a side of a kernel or of a shape. -/
def okK (n : Int) : Prop := n = 1 ∨ n = 3 ∨ n = 5
instance (n : Int) : Decidable (okK n) := inferInstanceAs (Decidable (_ ∨ _))
set_option maxHeartbeats 400000 in
theorem isKernelSide_any (n : Int) (w : World) :
    Calls Try.prog 107 #[.int .i64 n] w fun e w' => e = .returned (.bool (decide (okK n))) ∧ w = w' := by
  by_cases h1 : 1 ≤ n
  · by_cases h5 : n ≤ 5
    · have hc : n = 1 ∨ n = 2 ∨ n = 3 ∨ n = 4 ∨ n = 5 := by omega
      clear h1 h5
      rcases hc with rfl | rfl | rfl | rfl | rfl
      all_goals
        go_enter Try.func107, Try.ntmps107
        go_wp2
        go_ret
        exact ⟨rfl, rfl⟩
    · have hf : ¬ okK n := by unfold okK; omega
      rw [decide_eq_false hf]
      clear hf
      have h5' : 5 < n := by omega
      clear h5
      go_enter Try.func107, Try.ntmps107
      go_wp2
      go_ret
      exact ⟨rfl, rfl⟩
  · have hf : ¬ okK n := by unfold okK; omega
    rw [decide_eq_false hf]
    clear hf
    have h1' : n < 1 := by omega
    clear h1
    go_enter Try.func107, Try.ntmps107
    go_wp2
    go_ret
    exact ⟨rfl, rfl⟩
set_option maxHeartbeats 400000 in
theorem rkside_any (n : Int) (w : World) :
    Calls Try.prog 95 #[.int .i64 n] w fun e w' => e = .returned (.bool (decide (okK n))) ∧ w = w' := by
  by_cases h : okK n
  · rcases h with rfl | rfl | rfl
    all_goals
      go_enter Try.func95, Try.ntmps95
      go_wp2
      go_ret
      exact ⟨rfl, rfl⟩
  · rw [decide_eq_false h]
    have h1 : (n == 1) = false := by simp; intro e; exact h (.inl e)
    have h3 : (n == 3) = false := by simp; intro e; exact h (.inr (.inl e))
    have h5 : (n == 5) = false := by simp; intro e; exact h (.inr (.inr e))
    clear h
    go_enter Try.func95, Try.ntmps95
    go_wp2
    go_ret
    exact ⟨by first | rfl | simp [h1, h3, h5], rfl⟩

/-- A shape with these sides and cells is valid. -/
def okSh (W H : Int) (bs : List Bool) : Prop := (okK W ∧ okK H) ∧ (bs.length : Int) = W * H ∧ true ∈ bs
instance (W H : Int) (bs : List Bool) : Decidable (okSh W H bs) := inferInstanceAs (Decidable (_ ∧ _))
theorem okK_mul {W H : Int} (h1 : okK W) (h2 : okK H) : 1 ≤ W * H ∧ W * H ≤ 25 := by
  rcases h1 with rfl | rfl | rfl <;> rcases h2 with rfl | rfl | rfl <;> omega
def NoneUp (bs : List Bool) (k : Nat) : Prop := true ∉ bs.take k
theorem NoneUp.zero (bs : List Bool) : NoneUp bs 0 := fun h => by simp at h
theorem NoneUp.snoc {bs : List Bool} {k : Nat} (h : NoneUp bs k) (hz : bs[k]? = some false) : NoneUp bs (k + 1) := by
  unfold NoneUp
  rw [List.take_add_one, hz]
  intro hx
  rcases List.mem_append.1 hx with k | k
  · exact h k
  · simp at k
theorem NoneUp.all {bs : List Bool} {k : Nat} (h : NoneUp bs k) (hk : bs.length ≤ k) : true ∉ bs := by
  unfold NoneUp at h; rwa [List.take_of_length_le hk] at h

set_option maxHeartbeats 1000000 in
theorem isShape_any (W H : Int) (a : Option Addr) (n c : Nat) (bs : List Bool) (hn : n ≤ maxLen) (w : World) (hR : Row w a n (bv bs)) :
    Calls Try.prog 112 #[.agg #[.int .i64 W, .int .i64 H, .slice a n c]] w fun e w' => e = .returned (.bool (decide (okSh W H bs))) ∧ Below w.heap.size w w' := by
  unfold maxLen at hn
  have hlen : bs.length = n := by have := hR.1; rwa [bv_length] at this
  have HR := Lib.hid hR
  clear hR
  by_cases hW : okK W
  · have dW : decide (okK W) = true := decide_eq_true hW
    by_cases hH : okK H
    · have dH : decide (okK H) = true := decide_eq_true hH
      have hm := okK_mul hW hH
      by_cases hL : (n : Int) = W * H
      · have hl : ((n : Int) != W * H) = false := by simpa using hL
        have HO : Hid ((okK W ∧ okK H) ∧ (bs.length : Int) = W * H) := ⟨⟨hW, hH⟩, by rw [hlen]; exact hL⟩
        have HN := Lib.hid hlen
        clear hlen hL hW hH
        go_enter Try.func112, Try.ntmps112
        go_wp2_with (go_at_call 107; (with_reducible refine (isKernelSide_any _ _).mono ?_); rintro e w1 ⟨rfl, rfl⟩)
        go_loop [29] (fun i => ∃ k : Nat, k ≤ n ∧ i = .int .i64 k ∧ Hid (NoneUp bs k)) (fun i => n - (intOf i).toNat)
        case atStart => exact ⟨0, Nat.zero_le _, rfl, NoneUp.zero bs⟩
        case round =>
          obtain ⟨k, hk, rfl, hu⟩ := hrel
          by_cases hlt : k < n
          · obtain ⟨b, off, z, rfl, -, hz, hc⟩ := HR.out.bool hlt
            have hc := cell_alloc (o := .cells #[.int .i64 W, .int .i64 H, .slice (some ⟨b, off, none⟩) n c] 43) hc
            cases z
            · have hu' : Hid (NoneUp bs (k + 1)) := hu.out.snoc hz
              clear hz
              go_wp2
              go_round
              case rel => exact ⟨k + 1, hlt, by go_num, hu'⟩
              case measure => simp [intOf]; omega
            · have he : decide (okSh W H bs) = true := decide_eq_true ⟨HO.out.1, HO.out.2, List.mem_of_getElem? hz⟩
              clear hz
              go_wp2
              go_ret
              exact ⟨by first | rfl | rw [he], by (repeat' (first | (with_reducible exact Below.refl _ _) | (with_reducible assumption) | (with_reducible refine belowThru ?_ (by assumption)) | (with_reducible refine belowAlloc ?_) | (with_reducible refine Below.setCell ?_ (by first | omega | (simp; done) | (simp; omega)) _) | (with_reducible refine Below.drew ?_) | (with_reducible refine below_drewN ?_ _)))⟩
          · have he : decide (okSh W H bs) = false := decide_eq_false (fun h => hu.out.all (by rw [HN.out]; omega) h.2.2)
            go_wp2
            go_ret
            exact ⟨by first | rfl | rw [he], by (repeat' (first | (with_reducible exact Below.refl _ _) | (with_reducible assumption) | (with_reducible refine belowThru ?_ (by assumption)) | (with_reducible refine belowAlloc ?_) | (with_reducible refine Below.setCell ?_ (by first | omega | (simp; done) | (simp; omega)) _) | (with_reducible refine Below.drew ?_) | (with_reducible refine below_drewN ?_ _)))⟩
      · have hl : ((n : Int) != W * H) = true := by simpa using hL
        have he : decide (okSh W H bs) = false := decide_eq_false (fun h => hL (by rw [← hlen]; exact h.2.1))
        clear hlen hL hW hH
        rw [he]
        clear he
        go_enter Try.func112, Try.ntmps112
        go_wp2_with (go_at_call 107; (with_reducible refine (isKernelSide_any _ _).mono ?_); rintro e w1 ⟨rfl, rfl⟩)
        go_ret
        exact ⟨rfl, by (repeat' (first | (with_reducible exact Below.refl _ _) | (with_reducible assumption) | (with_reducible refine belowThru ?_ (by assumption)) | (with_reducible refine belowAlloc ?_) | (with_reducible refine Below.setCell ?_ (by first | omega | (simp; done) | (simp; omega)) _) | (with_reducible refine Below.drew ?_) | (with_reducible refine below_drewN ?_ _)))⟩
    · have dH : decide (okK H) = false := decide_eq_false hH
      rw [decide_eq_false (fun h => hH h.1.2 : ¬ okSh W H bs)]
      clear hlen hW hH
      go_enter Try.func112, Try.ntmps112
      go_wp2_with (go_at_call 107; (with_reducible refine (isKernelSide_any _ _).mono ?_); rintro e w1 ⟨rfl, rfl⟩)
      go_ret
      exact ⟨rfl, by (repeat' (first | (with_reducible exact Below.refl _ _) | (with_reducible assumption) | (with_reducible refine belowThru ?_ (by assumption)) | (with_reducible refine belowAlloc ?_) | (with_reducible refine Below.setCell ?_ (by first | omega | (simp; done) | (simp; omega)) _) | (with_reducible refine Below.drew ?_) | (with_reducible refine below_drewN ?_ _)))⟩
  · have dW : decide (okK W) = false := decide_eq_false hW
    rw [decide_eq_false (fun h => hW h.1.1 : ¬ okSh W H bs)]
    clear hlen hW
    go_enter Try.func112, Try.ntmps112
    go_wp2_with (go_at_call 107; (with_reducible refine (isKernelSide_any _ _).mono ?_); rintro e w1 ⟨rfl, rfl⟩)
    go_ret
    exact ⟨rfl, by (repeat' (first | (with_reducible exact Below.refl _ _) | (with_reducible assumption) | (with_reducible refine belowThru ?_ (by assumption)) | (with_reducible refine belowAlloc ?_) | (with_reducible refine Below.setCell ?_ (by first | omega | (simp; done) | (simp; omega)) _) | (with_reducible refine Below.drew ?_) | (with_reducible refine below_drewN ?_ _)))⟩
set_option maxHeartbeats 1000000 in
theorem rvalidShape_any (W H : Int) (a : Option Addr) (n c : Nat) (bs : List Bool) (hn : n ≤ maxLen) (w : World) (hR : Row w a n (bv bs)) :
    Calls Try.prog 43 #[.agg #[.int .i64 W, .int .i64 H, .slice a n c]] w fun e w' => e = .returned (.bool (decide (okSh W H bs))) ∧ Below w.heap.size w w' := by
  unfold maxLen at hn
  have hlen : bs.length = n := by have := hR.1; rwa [bv_length] at this
  have HR := Lib.hid hR
  clear hR
  by_cases hW : okK W
  · have dW : decide (okK W) = true := decide_eq_true hW
    by_cases hH : okK H
    · have dH : decide (okK H) = true := decide_eq_true hH
      have hm := okK_mul hW hH
      by_cases hL : (n : Int) = W * H
      · have hl : ((n : Int) != W * H) = false := by simpa using hL
        have HO : Hid ((okK W ∧ okK H) ∧ (bs.length : Int) = W * H) := ⟨⟨hW, hH⟩, by rw [hlen]; exact hL⟩
        have HN := Lib.hid hlen
        clear hlen hL hW hH
        go_enter Try.func43, Try.ntmps43
        go_wp2_with (go_at_call 95; (with_reducible refine (rkside_any _ _).mono ?_); rintro e w1 ⟨rfl, rfl⟩)
        go_loop [3] (fun i => ∃ k : Nat, k ≤ n ∧ i = .int .i64 k ∧ Hid (NoneUp bs k)) (fun i => n - (intOf i).toNat)
        case atStart => exact ⟨0, Nat.zero_le _, rfl, NoneUp.zero bs⟩
        case round =>
          obtain ⟨k, hk, rfl, hu⟩ := hrel
          by_cases hlt : k < n
          · obtain ⟨b, off, z, rfl, -, hz, hc⟩ := HR.out.bool hlt
            have hc := cell_alloc (o := .cells #[.int .i64 W, .int .i64 H, .slice (some ⟨b, off, none⟩) n c] 43) hc
            cases z
            · have hu' : Hid (NoneUp bs (k + 1)) := hu.out.snoc hz
              clear hz
              go_wp2
              go_round
              case rel => exact ⟨k + 1, hlt, by go_num, hu'⟩
              case measure => simp [intOf]; omega
            · have he : decide (okSh W H bs) = true := decide_eq_true ⟨HO.out.1, HO.out.2, List.mem_of_getElem? hz⟩
              clear hz
              go_wp2
              go_ret
              exact ⟨by first | rfl | rw [he], by (repeat' (first | (with_reducible exact Below.refl _ _) | (with_reducible assumption) | (with_reducible refine belowThru ?_ (by assumption)) | (with_reducible refine belowAlloc ?_) | (with_reducible refine Below.setCell ?_ (by first | omega | (simp; done) | (simp; omega)) _) | (with_reducible refine Below.drew ?_) | (with_reducible refine below_drewN ?_ _)))⟩
          · have he : decide (okSh W H bs) = false := decide_eq_false (fun h => hu.out.all (by rw [HN.out]; omega) h.2.2)
            go_wp2
            go_ret
            exact ⟨by first | rfl | rw [he], by (repeat' (first | (with_reducible exact Below.refl _ _) | (with_reducible assumption) | (with_reducible refine belowThru ?_ (by assumption)) | (with_reducible refine belowAlloc ?_) | (with_reducible refine Below.setCell ?_ (by first | omega | (simp; done) | (simp; omega)) _) | (with_reducible refine Below.drew ?_) | (with_reducible refine below_drewN ?_ _)))⟩
      · have hl : ((n : Int) != W * H) = true := by simpa using hL
        have he : decide (okSh W H bs) = false := decide_eq_false (fun h => hL (by rw [← hlen]; exact h.2.1))
        clear hlen hL hW hH
        rw [he]
        clear he
        go_enter Try.func43, Try.ntmps43
        go_wp2_with (go_at_call 95; (with_reducible refine (rkside_any _ _).mono ?_); rintro e w1 ⟨rfl, rfl⟩)
        go_ret
        exact ⟨rfl, by (repeat' (first | (with_reducible exact Below.refl _ _) | (with_reducible assumption) | (with_reducible refine belowThru ?_ (by assumption)) | (with_reducible refine belowAlloc ?_) | (with_reducible refine Below.setCell ?_ (by first | omega | (simp; done) | (simp; omega)) _) | (with_reducible refine Below.drew ?_) | (with_reducible refine below_drewN ?_ _)))⟩
    · have dH : decide (okK H) = false := decide_eq_false hH
      rw [decide_eq_false (fun h => hH h.1.2 : ¬ okSh W H bs)]
      clear hlen hW hH
      go_enter Try.func43, Try.ntmps43
      go_wp2_with (go_at_call 95; (with_reducible refine (rkside_any _ _).mono ?_); rintro e w1 ⟨rfl, rfl⟩)
      go_ret
      exact ⟨rfl, by (repeat' (first | (with_reducible exact Below.refl _ _) | (with_reducible assumption) | (with_reducible refine belowThru ?_ (by assumption)) | (with_reducible refine belowAlloc ?_) | (with_reducible refine Below.setCell ?_ (by first | omega | (simp; done) | (simp; omega)) _) | (with_reducible refine Below.drew ?_) | (with_reducible refine below_drewN ?_ _)))⟩
  · have dW : decide (okK W) = false := decide_eq_false hW
    rw [decide_eq_false (fun h => hW h.1.1 : ¬ okSh W H bs)]
    clear hlen hW
    go_enter Try.func43, Try.ntmps43
    go_wp2_with (go_at_call 95; (with_reducible refine (rkside_any _ _).mono ?_); rintro e w1 ⟨rfl, rfl⟩)
    go_ret
    exact ⟨rfl, by (repeat' (first | (with_reducible exact Below.refl _ _) | (with_reducible assumption) | (with_reducible refine belowThru ?_ (by assumption)) | (with_reducible refine belowAlloc ?_) | (with_reducible refine Below.setCell ?_ (by first | omega | (simp; done) | (simp; omega)) _) | (with_reducible refine Below.drew ?_) | (with_reducible refine below_drewN ?_ _)))⟩

end Go.Proofs.Ytihefdlolfpbnaa
