/-
  Layer 4: lists and noises that are none of a stripe, by the code and by the document.
-/
import Derived.Test.YticclcimelibdaaJStr
namespace Go.Proofs.Yticclcimelibdaa
open Go.RowKit
set_option linter.unusedVariables false
set_option linter.unusedSimpArgs false

theorem retS_nil {w w' : World} {er : Int} (h : Below w.heap.size w w') : RetS [] er w (.returned (.tuple #[.slice none 0 0, .int .i64 er])) w' := ⟨none, 0, rfl, ⟨rfl, fun h => absurd h (Nat.lt_irrefl 0)⟩, h⟩
set_option maxHeartbeats 2000000 in
theorem stripes_no0 (noise : Int) (a b : Option Addr) (n m c d : Nat) (xs ys : List Int) (hn : n ≤ maxLen) (hm : m ≤ maxLen) (w : World) (hR : Row w a n (iv xs)) (hS : Row w b m (iv ys)) (k1 : ¬ AllIn 1 8 [(n : Int), (m : Int)]) :
    Calls Try.prog 44 #[.slice a n c, .slice b m d, .int .i64 noise] w (RetS [] 2 w) := by
  have HR := Lib.hid hR; have HS := Lib.hid hS
  clear hR hS
  have HW1 : Hid (∀ (B : Nat) (w : World), w.cell? ⟨B, 0, none⟩ = some (.int .i64 n) → w.cell? ⟨B, 1, none⟩ = some (.int .i64 m) → Calls Try.prog 60 #[.int .i64 1, .int .i64 8, .slice (some ⟨B, 0, none⟩) 2 2] w fun e w' => e = .returned (.bool false) ∧ Below w.heap.size w w') := by
    intro B w h0 h1
    have := jwithin_any 1 8 (some ⟨B, 0, none⟩) 2 2 [(n : Int), m] (by unfold maxLen; omega) w (Row.two h0 h1)
    rwa [decide_eq_false k1] at this
  unfold maxLen at hn hm
  clear k1
  go_enter Try.func44, Try.ntmps44
  go_wp2_with (first
    | (go_at_call 60; ((with_reducible refine (HW1.out _ _ (by simp [go_sem]) (by simp [go_sem])).mono ?_); rintro e w1 ⟨rfl, hb⟩; have hB1 : Below w.heap.size w w1 := by (repeat' (first | (with_reducible exact Below.refl _ _) | (with_reducible assumption) | (with_reducible refine belowThru ?_ (by assumption)) | (with_reducible refine belowAlloc ?_) | (with_reducible refine Below.setCell ?_ (by first | omega | (simp; done) | (simp; omega)) _) | (with_reducible refine Below.drew ?_) | (with_reducible refine below_drewN ?_ _))))))
  go_ret2
  exact retS_nil (by (repeat' (first | (with_reducible exact Below.refl _ _) | (with_reducible assumption) | (with_reducible refine belowThru ?_ (by assumption)) | (with_reducible refine belowAlloc ?_) | (with_reducible refine Below.setCell ?_ (by first | omega | (simp; done) | (simp; omega)) _) | (with_reducible refine Below.drew ?_) | (with_reducible refine below_drewN ?_ _))))

set_option maxHeartbeats 2000000 in
theorem stripes_no1 (noise : Int) (a b : Option Addr) (n m c d : Nat) (xs ys : List Int) (hn : n ≤ maxLen) (hm : m ≤ maxLen) (w : World) (hR : Row w a n (iv xs)) (hS : Row w b m (iv ys)) (k1 :  AllIn 1 8 [(n : Int), (m : Int)]) (k2 : ¬ n = m) :
    Calls Try.prog 44 #[.slice a n c, .slice b m d, .int .i64 noise] w (RetS [] 2 w) := by
  have HR := Lib.hid hR; have HS := Lib.hid hS
  clear hR hS
  have HW1 : Hid (∀ (B : Nat) (w : World), w.cell? ⟨B, 0, none⟩ = some (.int .i64 n) → w.cell? ⟨B, 1, none⟩ = some (.int .i64 m) → Calls Try.prog 60 #[.int .i64 1, .int .i64 8, .slice (some ⟨B, 0, none⟩) 2 2] w fun e w' => e = .returned (.bool true) ∧ Below w.heap.size w w') := by
    intro B w h0 h1
    have := jwithin_any 1 8 (some ⟨B, 0, none⟩) 2 2 [(n : Int), m] (by unfold maxLen; omega) w (Row.two h0 h1)
    rwa [decide_eq_true k1] at this
  unfold maxLen at hn hm
  have hd : ((n : Int) != (m : Int)) = true := by simp; omega
  clear k1 k2
  go_enter Try.func44, Try.ntmps44
  go_wp2_with (first
    | (go_at_call 60; ((with_reducible refine (HW1.out _ _ (by simp [go_sem]) (by simp [go_sem])).mono ?_); rintro e w1 ⟨rfl, hb⟩; have hB1 : Below w.heap.size w w1 := by (repeat' (first | (with_reducible exact Below.refl _ _) | (with_reducible assumption) | (with_reducible refine belowThru ?_ (by assumption)) | (with_reducible refine belowAlloc ?_) | (with_reducible refine Below.setCell ?_ (by first | omega | (simp; done) | (simp; omega)) _) | (with_reducible refine Below.drew ?_) | (with_reducible refine below_drewN ?_ _))))))
  go_ret2
  exact retS_nil (by (repeat' (first | (with_reducible exact Below.refl _ _) | (with_reducible assumption) | (with_reducible refine belowThru ?_ (by assumption)) | (with_reducible refine belowAlloc ?_) | (with_reducible refine Below.setCell ?_ (by first | omega | (simp; done) | (simp; omega)) _) | (with_reducible refine Below.drew ?_) | (with_reducible refine below_drewN ?_ _))))

set_option maxHeartbeats 2000000 in
theorem stripes_no2 (noise : Int) (a b : Option Addr) (n m c d : Nat) (xs ys : List Int) (hn : n ≤ maxLen) (hm : m ≤ maxLen) (w : World) (hR : Row w a n (iv xs)) (hS : Row w b m (iv ys)) (k1 :  AllIn 1 8 [(n : Int), (m : Int)]) (k2 :  n = m) (k3 : ¬ AllIn 0 255 xs) :
    Calls Try.prog 44 #[.slice a n c, .slice b m d, .int .i64 noise] w (RetS [] 2 w) := by
  have HR := Lib.hid hR; have HS := Lib.hid hS
  clear hR hS
  have HW1 : Hid (∀ (B : Nat) (w : World), w.cell? ⟨B, 0, none⟩ = some (.int .i64 n) → w.cell? ⟨B, 1, none⟩ = some (.int .i64 m) → Calls Try.prog 60 #[.int .i64 1, .int .i64 8, .slice (some ⟨B, 0, none⟩) 2 2] w fun e w' => e = .returned (.bool true) ∧ Below w.heap.size w w') := by
    intro B w h0 h1
    have := jwithin_any 1 8 (some ⟨B, 0, none⟩) 2 2 [(n : Int), m] (by unfold maxLen; omega) w (Row.two h0 h1)
    rwa [decide_eq_true k1] at this
  have HW2 : Hid (∀ (w : World), Row w a n (iv xs) → Calls Try.prog 60 #[.int .i64 0, .int .i64 255, .slice a n c] w fun e w' => e = .returned (.bool false) ∧ Below w.heap.size w w') := by
    intro w hr
    have := jwithin_any 0 255 a n c xs hn w hr
    rwa [decide_eq_false k3] at this
  unfold maxLen at hn hm
  subst k2
  clear k1 k3
  go_enter Try.func44, Try.ntmps44
  go_wp2_with (first
    | (go_at_call 60; ((with_reducible refine (HW1.out _ _ (by simp [go_sem]) (by simp [go_sem])).mono ?_); rintro e w1 ⟨rfl, hb⟩; have hB1 : Below w.heap.size w w1 := by (repeat' (first | (with_reducible exact Below.refl _ _) | (with_reducible assumption) | (with_reducible refine belowThru ?_ (by assumption)) | (with_reducible refine belowAlloc ?_) | (with_reducible refine Below.setCell ?_ (by first | omega | (simp; done) | (simp; omega)) _) | (with_reducible refine Below.drew ?_) | (with_reducible refine below_drewN ?_ _)))))
    | (go_at_call 60; ((with_reducible refine (HW2.out _ (HR.out.later (by (repeat' (first | (with_reducible exact Below.refl _ _) | (with_reducible assumption) | (with_reducible refine belowThru ?_ (by assumption)) | (with_reducible refine belowAlloc ?_) | (with_reducible refine Below.setCell ?_ (by first | omega | (simp; done) | (simp; omega)) _) | (with_reducible refine Below.drew ?_) | (with_reducible refine below_drewN ?_ _)))))).mono ?_); rintro e w2 ⟨rfl, hb2⟩; have hB2 : Below w.heap.size w w2 := by (repeat' (first | (with_reducible exact Below.refl _ _) | (with_reducible assumption) | (with_reducible refine belowThru ?_ (by assumption)) | (with_reducible refine belowAlloc ?_) | (with_reducible refine Below.setCell ?_ (by first | omega | (simp; done) | (simp; omega)) _) | (with_reducible refine Below.drew ?_) | (with_reducible refine below_drewN ?_ _))))))
  go_ret2
  exact retS_nil (by (repeat' (first | (with_reducible exact Below.refl _ _) | (with_reducible assumption) | (with_reducible refine belowThru ?_ (by assumption)) | (with_reducible refine belowAlloc ?_) | (with_reducible refine Below.setCell ?_ (by first | omega | (simp; done) | (simp; omega)) _) | (with_reducible refine Below.drew ?_) | (with_reducible refine below_drewN ?_ _))))

set_option maxHeartbeats 2000000 in
theorem stripes_no3 (noise : Int) (a b : Option Addr) (n m c d : Nat) (xs ys : List Int) (hn : n ≤ maxLen) (hm : m ≤ maxLen) (w : World) (hR : Row w a n (iv xs)) (hS : Row w b m (iv ys)) (k1 :  AllIn 1 8 [(n : Int), (m : Int)]) (k2 :  n = m) (k3 :  AllIn 0 255 xs) (k4 : ¬ AllIn 0 255 ys) :
    Calls Try.prog 44 #[.slice a n c, .slice b m d, .int .i64 noise] w (RetS [] 2 w) := by
  have HR := Lib.hid hR; have HS := Lib.hid hS
  clear hR hS
  have HW1 : Hid (∀ (B : Nat) (w : World), w.cell? ⟨B, 0, none⟩ = some (.int .i64 n) → w.cell? ⟨B, 1, none⟩ = some (.int .i64 m) → Calls Try.prog 60 #[.int .i64 1, .int .i64 8, .slice (some ⟨B, 0, none⟩) 2 2] w fun e w' => e = .returned (.bool true) ∧ Below w.heap.size w w') := by
    intro B w h0 h1
    have := jwithin_any 1 8 (some ⟨B, 0, none⟩) 2 2 [(n : Int), m] (by unfold maxLen; omega) w (Row.two h0 h1)
    rwa [decide_eq_true k1] at this
  have HW2 : Hid (∀ (w : World), Row w a n (iv xs) → Calls Try.prog 60 #[.int .i64 0, .int .i64 255, .slice a n c] w fun e w' => e = .returned (.bool true) ∧ Below w.heap.size w w') := by
    intro w hr
    have := jwithin_any 0 255 a n c xs hn w hr
    rwa [decide_eq_true k3] at this
  have HW3 : Hid (∀ (w : World), Row w b m (iv ys) → Calls Try.prog 60 #[.int .i64 0, .int .i64 255, .slice b m d] w fun e w' => e = .returned (.bool false) ∧ Below w.heap.size w w') := by
    intro w hr
    have := jwithin_any 0 255 b m d ys hm w hr
    rwa [decide_eq_false k4] at this
  unfold maxLen at hn hm
  subst k2
  clear k1 k3 k4
  go_enter Try.func44, Try.ntmps44
  go_wp2_with (first
    | (go_at_call 60; ((with_reducible refine (HW1.out _ _ (by simp [go_sem]) (by simp [go_sem])).mono ?_); rintro e w1 ⟨rfl, hb⟩; have hB1 : Below w.heap.size w w1 := by (repeat' (first | (with_reducible exact Below.refl _ _) | (with_reducible assumption) | (with_reducible refine belowThru ?_ (by assumption)) | (with_reducible refine belowAlloc ?_) | (with_reducible refine Below.setCell ?_ (by first | omega | (simp; done) | (simp; omega)) _) | (with_reducible refine Below.drew ?_) | (with_reducible refine below_drewN ?_ _)))))
    | (go_at_call 60; ((with_reducible refine (HW2.out _ (HR.out.later (by (repeat' (first | (with_reducible exact Below.refl _ _) | (with_reducible assumption) | (with_reducible refine belowThru ?_ (by assumption)) | (with_reducible refine belowAlloc ?_) | (with_reducible refine Below.setCell ?_ (by first | omega | (simp; done) | (simp; omega)) _) | (with_reducible refine Below.drew ?_) | (with_reducible refine below_drewN ?_ _)))))).mono ?_); rintro e w2 ⟨rfl, hb2⟩; have hB2 : Below w.heap.size w w2 := by (repeat' (first | (with_reducible exact Below.refl _ _) | (with_reducible assumption) | (with_reducible refine belowThru ?_ (by assumption)) | (with_reducible refine belowAlloc ?_) | (with_reducible refine Below.setCell ?_ (by first | omega | (simp; done) | (simp; omega)) _) | (with_reducible refine Below.drew ?_) | (with_reducible refine below_drewN ?_ _)))))
    | (go_at_call 60; ((with_reducible refine (HW3.out _ (HS.out.later (by (repeat' (first | (with_reducible exact Below.refl _ _) | (with_reducible assumption) | (with_reducible refine belowThru ?_ (by assumption)) | (with_reducible refine belowAlloc ?_) | (with_reducible refine Below.setCell ?_ (by first | omega | (simp; done) | (simp; omega)) _) | (with_reducible refine Below.drew ?_) | (with_reducible refine below_drewN ?_ _)))))).mono ?_); rintro e w3 ⟨rfl, hb3⟩; have hB3 : Below w.heap.size w w3 := by (repeat' (first | (with_reducible exact Below.refl _ _) | (with_reducible assumption) | (with_reducible refine belowThru ?_ (by assumption)) | (with_reducible refine belowAlloc ?_) | (with_reducible refine Below.setCell ?_ (by first | omega | (simp; done) | (simp; omega)) _) | (with_reducible refine Below.drew ?_) | (with_reducible refine below_drewN ?_ _))))))
  go_ret2
  exact retS_nil (by (repeat' (first | (with_reducible exact Below.refl _ _) | (with_reducible assumption) | (with_reducible refine belowThru ?_ (by assumption)) | (with_reducible refine belowAlloc ?_) | (with_reducible refine Below.setCell ?_ (by first | omega | (simp; done) | (simp; omega)) _) | (with_reducible refine Below.drew ?_) | (with_reducible refine below_drewN ?_ _))))

set_option maxHeartbeats 2000000 in
theorem stripes_no4 (noise : Int) (a b : Option Addr) (n m c d : Nat) (xs ys : List Int) (hn : n ≤ maxLen) (hm : m ≤ maxLen) (w : World) (hR : Row w a n (iv xs)) (hS : Row w b m (iv ys)) (k1 :  AllIn 1 8 [(n : Int), (m : Int)]) (k2 :  n = m) (k3 :  AllIn 0 255 xs) (k4 :  AllIn 0 255 ys) (k5 : ¬ (0 ≤ noise ∧ noise ≤ 64)) :
    Calls Try.prog 44 #[.slice a n c, .slice b m d, .int .i64 noise] w (RetS [] 2 w) := by
  have HR := Lib.hid hR; have HS := Lib.hid hS
  clear hR hS
  have HW1 : Hid (∀ (B : Nat) (w : World), w.cell? ⟨B, 0, none⟩ = some (.int .i64 n) → w.cell? ⟨B, 1, none⟩ = some (.int .i64 m) → Calls Try.prog 60 #[.int .i64 1, .int .i64 8, .slice (some ⟨B, 0, none⟩) 2 2] w fun e w' => e = .returned (.bool true) ∧ Below w.heap.size w w') := by
    intro B w h0 h1
    have := jwithin_any 1 8 (some ⟨B, 0, none⟩) 2 2 [(n : Int), m] (by unfold maxLen; omega) w (Row.two h0 h1)
    rwa [decide_eq_true k1] at this
  have HW2 : Hid (∀ (w : World), Row w a n (iv xs) → Calls Try.prog 60 #[.int .i64 0, .int .i64 255, .slice a n c] w fun e w' => e = .returned (.bool true) ∧ Below w.heap.size w w') := by
    intro w hr
    have := jwithin_any 0 255 a n c xs hn w hr
    rwa [decide_eq_true k3] at this
  have HW3 : Hid (∀ (w : World), Row w b m (iv ys) → Calls Try.prog 60 #[.int .i64 0, .int .i64 255, .slice b m d] w fun e w' => e = .returned (.bool true) ∧ Below w.heap.size w w') := by
    intro w hr
    have := jwithin_any 0 255 b m d ys hm w hr
    rwa [decide_eq_true k4] at this
  have HW4 : Hid (∀ (B : Nat) (w : World), w.cell? ⟨B, 0, none⟩ = some (.int .i64 noise) → Calls Try.prog 60 #[.int .i64 0, .int .i64 64, .slice (some ⟨B, 0, none⟩) 1 1] w fun e w' => e = .returned (.bool false) ∧ Below w.heap.size w w') := by
    intro B w h0
    have := jwithin_any 0 64 (some ⟨B, 0, none⟩) 1 1 [noise] (by unfold maxLen; omega) w (Row.one h0)
    rwa [decide_eq_false (show ¬ AllIn 0 64 [noise] from fun h => k5 (h noise (by simp)))] at this
  unfold maxLen at hn hm
  subst k2
  clear k1 k3 k4 k5
  go_enter Try.func44, Try.ntmps44
  go_wp2_with (first
    | (go_at_call 60; ((with_reducible refine (HW1.out _ _ (by simp [go_sem]) (by simp [go_sem])).mono ?_); rintro e w1 ⟨rfl, hb⟩; have hB1 : Below w.heap.size w w1 := by (repeat' (first | (with_reducible exact Below.refl _ _) | (with_reducible assumption) | (with_reducible refine belowThru ?_ (by assumption)) | (with_reducible refine belowAlloc ?_) | (with_reducible refine Below.setCell ?_ (by first | omega | (simp; done) | (simp; omega)) _) | (with_reducible refine Below.drew ?_) | (with_reducible refine below_drewN ?_ _)))))
    | (go_at_call 60; ((with_reducible refine (HW2.out _ (HR.out.later (by (repeat' (first | (with_reducible exact Below.refl _ _) | (with_reducible assumption) | (with_reducible refine belowThru ?_ (by assumption)) | (with_reducible refine belowAlloc ?_) | (with_reducible refine Below.setCell ?_ (by first | omega | (simp; done) | (simp; omega)) _) | (with_reducible refine Below.drew ?_) | (with_reducible refine below_drewN ?_ _)))))).mono ?_); rintro e w2 ⟨rfl, hb2⟩; have hB2 : Below w.heap.size w w2 := by (repeat' (first | (with_reducible exact Below.refl _ _) | (with_reducible assumption) | (with_reducible refine belowThru ?_ (by assumption)) | (with_reducible refine belowAlloc ?_) | (with_reducible refine Below.setCell ?_ (by first | omega | (simp; done) | (simp; omega)) _) | (with_reducible refine Below.drew ?_) | (with_reducible refine below_drewN ?_ _)))))
    | (go_at_call 60; ((with_reducible refine (HW3.out _ (HS.out.later (by (repeat' (first | (with_reducible exact Below.refl _ _) | (with_reducible assumption) | (with_reducible refine belowThru ?_ (by assumption)) | (with_reducible refine belowAlloc ?_) | (with_reducible refine Below.setCell ?_ (by first | omega | (simp; done) | (simp; omega)) _) | (with_reducible refine Below.drew ?_) | (with_reducible refine below_drewN ?_ _)))))).mono ?_); rintro e w3 ⟨rfl, hb3⟩; have hB3 : Below w.heap.size w w3 := by (repeat' (first | (with_reducible exact Below.refl _ _) | (with_reducible assumption) | (with_reducible refine belowThru ?_ (by assumption)) | (with_reducible refine belowAlloc ?_) | (with_reducible refine Below.setCell ?_ (by first | omega | (simp; done) | (simp; omega)) _) | (with_reducible refine Below.drew ?_) | (with_reducible refine below_drewN ?_ _)))))
    | (go_at_call 60; ((with_reducible refine (HW4.out _ _ (by simp [go_sem])).mono ?_); rintro e w4 ⟨rfl, hb4⟩; have hB4 : Below w.heap.size w w4 := by (repeat' (first | (with_reducible exact Below.refl _ _) | (with_reducible assumption) | (with_reducible refine belowThru ?_ (by assumption)) | (with_reducible refine belowAlloc ?_) | (with_reducible refine Below.setCell ?_ (by first | omega | (simp; done) | (simp; omega)) _) | (with_reducible refine Below.drew ?_) | (with_reducible refine below_drewN ?_ _))))))
  go_ret2
  exact retS_nil (by (repeat' (first | (with_reducible exact Below.refl _ _) | (with_reducible assumption) | (with_reducible refine belowThru ?_ (by assumption)) | (with_reducible refine belowAlloc ?_) | (with_reducible refine Below.setCell ?_ (by first | omega | (simp; done) | (simp; omega)) _) | (with_reducible refine Below.drew ?_) | (with_reducible refine below_drewN ?_ _))))

set_option maxHeartbeats 2000000 in
theorem rstripes_no0 (noise : Int) (a b : Option Addr) (n m c d : Nat) (xs ys : List Int) (hn : n ≤ maxLen) (hm : m ≤ maxLen) (w : World) (hR : Row w a n (iv xs)) (hS : Row w b m (iv ys)) (k1 : ¬ (1 ≤ (n : Int) ∧ (n : Int) ≤ 8)) :
    Calls Try.prog 45 #[.slice a n c, .slice b m d, .int .i64 noise] w (RetS [] 2 w) := by
  have HR := Lib.hid hR; have HS := Lib.hid hS
  clear hR hS
  have HW1 : Hid (∀ w, Calls Try.prog 82 #[.int .i64 (n : Int), .int .i64 1, .int .i64 8] w fun e w' => e = .returned (.bool false) ∧ w = w') := fun w => rwithin_no _ _ _ k1 w
  unfold maxLen at hn hm
  clear k1
  go_enter Try.func45, Try.ntmps45
  go_wp2_with (first
    | (go_at_call 82; ((with_reducible refine (HW1.out _).mono ?_); rintro e w1 ⟨rfl, rfl⟩)))
  go_ret2
  exact retS_nil (by (repeat' (first | (with_reducible exact Below.refl _ _) | (with_reducible assumption) | (with_reducible refine belowThru ?_ (by assumption)) | (with_reducible refine belowAlloc ?_) | (with_reducible refine Below.setCell ?_ (by first | omega | (simp; done) | (simp; omega)) _) | (with_reducible refine Below.drew ?_) | (with_reducible refine below_drewN ?_ _))))

set_option maxHeartbeats 2000000 in
theorem rstripes_no1 (noise : Int) (a b : Option Addr) (n m c d : Nat) (xs ys : List Int) (hn : n ≤ maxLen) (hm : m ≤ maxLen) (w : World) (hR : Row w a n (iv xs)) (hS : Row w b m (iv ys)) (k1 :  (1 ≤ (n : Int) ∧ (n : Int) ≤ 8)) (k2 : ¬ n = m) :
    Calls Try.prog 45 #[.slice a n c, .slice b m d, .int .i64 noise] w (RetS [] 2 w) := by
  have HR := Lib.hid hR; have HS := Lib.hid hS
  clear hR hS
  have HW1 : Hid (∀ w, Calls Try.prog 82 #[.int .i64 (n : Int), .int .i64 1, .int .i64 8] w fun e w' => e = .returned (.bool true) ∧ w = w') := fun w => rwithin_yes _ _ _ k1.1 k1.2 w
  unfold maxLen at hn hm
  have hd : ((m : Int) != (n : Int)) = true := by simp; omega
  clear k1 k2
  go_enter Try.func45, Try.ntmps45
  go_wp2_with (first
    | (go_at_call 82; ((with_reducible refine (HW1.out _).mono ?_); rintro e w1 ⟨rfl, rfl⟩)))
  go_ret2
  exact retS_nil (by (repeat' (first | (with_reducible exact Below.refl _ _) | (with_reducible assumption) | (with_reducible refine belowThru ?_ (by assumption)) | (with_reducible refine belowAlloc ?_) | (with_reducible refine Below.setCell ?_ (by first | omega | (simp; done) | (simp; omega)) _) | (with_reducible refine Below.drew ?_) | (with_reducible refine below_drewN ?_ _))))

set_option maxHeartbeats 2000000 in
theorem rstripes_no2 (noise : Int) (a b : Option Addr) (n m c d : Nat) (xs ys : List Int) (hn : n ≤ maxLen) (hm : m ≤ maxLen) (w : World) (hR : Row w a n (iv xs)) (hS : Row w b m (iv ys)) (k1 :  (1 ≤ (n : Int) ∧ (n : Int) ≤ 8)) (k2 :  n = m) (k3 : ¬ AllIn 0 255 xs) :
    Calls Try.prog 45 #[.slice a n c, .slice b m d, .int .i64 noise] w (RetS [] 2 w) := by
  have HR := Lib.hid hR; have HS := Lib.hid hS
  clear hR hS
  have HW1 : Hid (∀ w, Calls Try.prog 82 #[.int .i64 (n : Int), .int .i64 1, .int .i64 8] w fun e w' => e = .returned (.bool true) ∧ w = w') := fun w => rwithin_yes _ _ _ k1.1 k1.2 w
  have HW2 : Hid (∀ (w : World), Row w a n (iv xs) → Calls Try.prog 87 #[.slice a n c] w fun e w' => e = .returned (.bool false) ∧ Below w.heap.size w w') := by
    intro w hr
    have := values_any a n c xs hn w hr
    rwa [decide_eq_false k3] at this
  unfold maxLen at hn hm
  subst k2
  clear k1 k3
  go_enter Try.func45, Try.ntmps45
  go_wp2_with (first
    | (go_at_call 82; ((with_reducible refine (HW1.out _).mono ?_); rintro e w1 ⟨rfl, rfl⟩))
    | (go_at_call 87; ((with_reducible refine (HW2.out _ (HR.out.later (by (repeat' (first | (with_reducible exact Below.refl _ _) | (with_reducible assumption) | (with_reducible refine belowThru ?_ (by assumption)) | (with_reducible refine belowAlloc ?_) | (with_reducible refine Below.setCell ?_ (by first | omega | (simp; done) | (simp; omega)) _) | (with_reducible refine Below.drew ?_) | (with_reducible refine below_drewN ?_ _)))))).mono ?_); rintro e w2 ⟨rfl, hb2⟩; have hB2 : Below w.heap.size w w2 := by (repeat' (first | (with_reducible exact Below.refl _ _) | (with_reducible assumption) | (with_reducible refine belowThru ?_ (by assumption)) | (with_reducible refine belowAlloc ?_) | (with_reducible refine Below.setCell ?_ (by first | omega | (simp; done) | (simp; omega)) _) | (with_reducible refine Below.drew ?_) | (with_reducible refine below_drewN ?_ _))))))
  go_ret2
  exact retS_nil (by (repeat' (first | (with_reducible exact Below.refl _ _) | (with_reducible assumption) | (with_reducible refine belowThru ?_ (by assumption)) | (with_reducible refine belowAlloc ?_) | (with_reducible refine Below.setCell ?_ (by first | omega | (simp; done) | (simp; omega)) _) | (with_reducible refine Below.drew ?_) | (with_reducible refine below_drewN ?_ _))))

set_option maxHeartbeats 2000000 in
theorem rstripes_no3 (noise : Int) (a b : Option Addr) (n m c d : Nat) (xs ys : List Int) (hn : n ≤ maxLen) (hm : m ≤ maxLen) (w : World) (hR : Row w a n (iv xs)) (hS : Row w b m (iv ys)) (k1 :  (1 ≤ (n : Int) ∧ (n : Int) ≤ 8)) (k2 :  n = m) (k3 :  AllIn 0 255 xs) (k4 : ¬ AllIn 0 255 ys) :
    Calls Try.prog 45 #[.slice a n c, .slice b m d, .int .i64 noise] w (RetS [] 2 w) := by
  have HR := Lib.hid hR; have HS := Lib.hid hS
  clear hR hS
  have HW1 : Hid (∀ w, Calls Try.prog 82 #[.int .i64 (n : Int), .int .i64 1, .int .i64 8] w fun e w' => e = .returned (.bool true) ∧ w = w') := fun w => rwithin_yes _ _ _ k1.1 k1.2 w
  have HW2 : Hid (∀ (w : World), Row w a n (iv xs) → Calls Try.prog 87 #[.slice a n c] w fun e w' => e = .returned (.bool true) ∧ Below w.heap.size w w') := by
    intro w hr
    have := values_any a n c xs hn w hr
    rwa [decide_eq_true k3] at this
  have HW3 : Hid (∀ (w : World), Row w b m (iv ys) → Calls Try.prog 87 #[.slice b m d] w fun e w' => e = .returned (.bool false) ∧ Below w.heap.size w w') := by
    intro w hr
    have := values_any b m d ys hm w hr
    rwa [decide_eq_false k4] at this
  unfold maxLen at hn hm
  subst k2
  clear k1 k3 k4
  go_enter Try.func45, Try.ntmps45
  go_wp2_with (first
    | (go_at_call 82; ((with_reducible refine (HW1.out _).mono ?_); rintro e w1 ⟨rfl, rfl⟩))
    | (go_at_call 87; ((with_reducible refine (HW2.out _ (HR.out.later (by (repeat' (first | (with_reducible exact Below.refl _ _) | (with_reducible assumption) | (with_reducible refine belowThru ?_ (by assumption)) | (with_reducible refine belowAlloc ?_) | (with_reducible refine Below.setCell ?_ (by first | omega | (simp; done) | (simp; omega)) _) | (with_reducible refine Below.drew ?_) | (with_reducible refine below_drewN ?_ _)))))).mono ?_); rintro e w2 ⟨rfl, hb2⟩; have hB2 : Below w.heap.size w w2 := by (repeat' (first | (with_reducible exact Below.refl _ _) | (with_reducible assumption) | (with_reducible refine belowThru ?_ (by assumption)) | (with_reducible refine belowAlloc ?_) | (with_reducible refine Below.setCell ?_ (by first | omega | (simp; done) | (simp; omega)) _) | (with_reducible refine Below.drew ?_) | (with_reducible refine below_drewN ?_ _)))))
    | (go_at_call 87; ((with_reducible refine (HW3.out _ (HS.out.later (by (repeat' (first | (with_reducible exact Below.refl _ _) | (with_reducible assumption) | (with_reducible refine belowThru ?_ (by assumption)) | (with_reducible refine belowAlloc ?_) | (with_reducible refine Below.setCell ?_ (by first | omega | (simp; done) | (simp; omega)) _) | (with_reducible refine Below.drew ?_) | (with_reducible refine below_drewN ?_ _)))))).mono ?_); rintro e w3 ⟨rfl, hb3⟩; have hB3 : Below w.heap.size w w3 := by (repeat' (first | (with_reducible exact Below.refl _ _) | (with_reducible assumption) | (with_reducible refine belowThru ?_ (by assumption)) | (with_reducible refine belowAlloc ?_) | (with_reducible refine Below.setCell ?_ (by first | omega | (simp; done) | (simp; omega)) _) | (with_reducible refine Below.drew ?_) | (with_reducible refine below_drewN ?_ _))))))
  go_ret2
  exact retS_nil (by (repeat' (first | (with_reducible exact Below.refl _ _) | (with_reducible assumption) | (with_reducible refine belowThru ?_ (by assumption)) | (with_reducible refine belowAlloc ?_) | (with_reducible refine Below.setCell ?_ (by first | omega | (simp; done) | (simp; omega)) _) | (with_reducible refine Below.drew ?_) | (with_reducible refine below_drewN ?_ _))))

set_option maxHeartbeats 2000000 in
theorem rstripes_no4 (noise : Int) (a b : Option Addr) (n m c d : Nat) (xs ys : List Int) (hn : n ≤ maxLen) (hm : m ≤ maxLen) (w : World) (hR : Row w a n (iv xs)) (hS : Row w b m (iv ys)) (k1 :  (1 ≤ (n : Int) ∧ (n : Int) ≤ 8)) (k2 :  n = m) (k3 :  AllIn 0 255 xs) (k4 :  AllIn 0 255 ys) (k5 : ¬ (0 ≤ noise ∧ noise ≤ 64)) :
    Calls Try.prog 45 #[.slice a n c, .slice b m d, .int .i64 noise] w (RetS [] 2 w) := by
  have HR := Lib.hid hR; have HS := Lib.hid hS
  clear hR hS
  have HW1 : Hid (∀ w, Calls Try.prog 82 #[.int .i64 (n : Int), .int .i64 1, .int .i64 8] w fun e w' => e = .returned (.bool true) ∧ w = w') := fun w => rwithin_yes _ _ _ k1.1 k1.2 w
  have HW2 : Hid (∀ (w : World), Row w a n (iv xs) → Calls Try.prog 87 #[.slice a n c] w fun e w' => e = .returned (.bool true) ∧ Below w.heap.size w w') := by
    intro w hr
    have := values_any a n c xs hn w hr
    rwa [decide_eq_true k3] at this
  have HW3 : Hid (∀ (w : World), Row w b m (iv ys) → Calls Try.prog 87 #[.slice b m d] w fun e w' => e = .returned (.bool true) ∧ Below w.heap.size w w') := by
    intro w hr
    have := values_any b m d ys hm w hr
    rwa [decide_eq_true k4] at this
  have HW4 : Hid (∀ w, Calls Try.prog 82 #[.int .i64 noise, .int .i64 0, .int .i64 64] w fun e w' => e = .returned (.bool false) ∧ w = w') := fun w => rwithin_no _ _ _ k5 w
  unfold maxLen at hn hm
  subst k2
  clear k1 k3 k4 k5
  go_enter Try.func45, Try.ntmps45
  go_wp2_with (first
    | (go_at_call 82; ((with_reducible refine (HW1.out _).mono ?_); rintro e w1 ⟨rfl, rfl⟩))
    | (go_at_call 87; ((with_reducible refine (HW2.out _ (HR.out.later (by (repeat' (first | (with_reducible exact Below.refl _ _) | (with_reducible assumption) | (with_reducible refine belowThru ?_ (by assumption)) | (with_reducible refine belowAlloc ?_) | (with_reducible refine Below.setCell ?_ (by first | omega | (simp; done) | (simp; omega)) _) | (with_reducible refine Below.drew ?_) | (with_reducible refine below_drewN ?_ _)))))).mono ?_); rintro e w2 ⟨rfl, hb2⟩; have hB2 : Below w.heap.size w w2 := by (repeat' (first | (with_reducible exact Below.refl _ _) | (with_reducible assumption) | (with_reducible refine belowThru ?_ (by assumption)) | (with_reducible refine belowAlloc ?_) | (with_reducible refine Below.setCell ?_ (by first | omega | (simp; done) | (simp; omega)) _) | (with_reducible refine Below.drew ?_) | (with_reducible refine below_drewN ?_ _)))))
    | (go_at_call 87; ((with_reducible refine (HW3.out _ (HS.out.later (by (repeat' (first | (with_reducible exact Below.refl _ _) | (with_reducible assumption) | (with_reducible refine belowThru ?_ (by assumption)) | (with_reducible refine belowAlloc ?_) | (with_reducible refine Below.setCell ?_ (by first | omega | (simp; done) | (simp; omega)) _) | (with_reducible refine Below.drew ?_) | (with_reducible refine below_drewN ?_ _)))))).mono ?_); rintro e w3 ⟨rfl, hb3⟩; have hB3 : Below w.heap.size w w3 := by (repeat' (first | (with_reducible exact Below.refl _ _) | (with_reducible assumption) | (with_reducible refine belowThru ?_ (by assumption)) | (with_reducible refine belowAlloc ?_) | (with_reducible refine Below.setCell ?_ (by first | omega | (simp; done) | (simp; omega)) _) | (with_reducible refine Below.drew ?_) | (with_reducible refine below_drewN ?_ _)))))
    | (go_at_call 82; ((with_reducible refine (HW4.out _).mono ?_); rintro e w4 ⟨rfl, rfl⟩)))
  go_ret2
  exact retS_nil (by (repeat' (first | (with_reducible exact Below.refl _ _) | (with_reducible assumption) | (with_reducible refine belowThru ?_ (by assumption)) | (with_reducible refine belowAlloc ?_) | (with_reducible refine Below.setCell ?_ (by first | omega | (simp; done) | (simp; omega)) _) | (with_reducible refine Below.drew ?_) | (with_reducible refine below_drewN ?_ _))))

theorem okStr_cases (noise : Int) (n m : Nat) (xs ys : List Int) (hx : xs.length = n) (hy : ys.length = m) (h : ¬ okStr noise xs ys) :
    (¬ AllIn 1 8 [(n : Int), (m : Int)]) ∨ (AllIn 1 8 [(n : Int), (m : Int)] ∧ ¬ n = m) ∨ (AllIn 1 8 [(n : Int), (m : Int)] ∧ n = m ∧ ¬ AllIn 0 255 xs) ∨ (AllIn 1 8 [(n : Int), (m : Int)] ∧ n = m ∧ AllIn 0 255 xs ∧ ¬ AllIn 0 255 ys) ∨ (AllIn 1 8 [(n : Int), (m : Int)] ∧ n = m ∧ AllIn 0 255 xs ∧ AllIn 0 255 ys ∧ ¬ (0 ≤ noise ∧ noise ≤ 64)) := by
  by_cases k1 : AllIn 1 8 [(n : Int), (m : Int)]
  · by_cases k2 : n = m
    · by_cases k3 : AllIn 0 255 xs
      · by_cases k4 : AllIn 0 255 ys
        · by_cases k5 : 0 ≤ noise ∧ noise ≤ 64
          · refine absurd ⟨?_, by omega, k3, k4, k5⟩ h
            have := k1 (n : Int) (by simp)
            omega
          · exact .inr (.inr (.inr (.inr ⟨k1, k2, k3, k4, k5⟩)))
        · exact .inr (.inr (.inr (.inl ⟨k1, k2, k3, k4⟩)))
      · exact .inr (.inr (.inl ⟨k1, k2, k3⟩))
    · exact .inr (.inl ⟨k1, k2⟩)
  · exact .inl k1
theorem stripes_no (noise : Int) (a b : Option Addr) (n m c d : Nat) (xs ys : List Int) (hn : n ≤ maxLen) (hm : m ≤ maxLen) (w : World) (hR : Row w a n (iv xs)) (hS : Row w b m (iv ys)) (h : ¬ okStr noise xs ys) :
    Calls Try.prog 44 #[.slice a n c, .slice b m d, .int .i64 noise] w (RetS [] 2 w) := by
  have hx : xs.length = n := by have := hR.1; rwa [iv_length] at this
  have hy : ys.length = m := by have := hS.1; rwa [iv_length] at this
  rcases okStr_cases noise n m xs ys hx hy h with k | ⟨k1, k⟩ | ⟨k1, k2, k⟩ | ⟨k1, k2, k3, k⟩ | ⟨k1, k2, k3, k4, k⟩
  · exact stripes_no0 noise a b n m c d xs ys hn hm w hR hS k
  · exact stripes_no1 noise a b n m c d xs ys hn hm w hR hS k1 k
  · exact stripes_no2 noise a b n m c d xs ys hn hm w hR hS k1 k2 k
  · exact stripes_no3 noise a b n m c d xs ys hn hm w hR hS k1 k2 k3 k
  · exact stripes_no4 noise a b n m c d xs ys hn hm w hR hS k1 k2 k3 k4 k
theorem rstripes_no (noise : Int) (a b : Option Addr) (n m c d : Nat) (xs ys : List Int) (hn : n ≤ maxLen) (hm : m ≤ maxLen) (w : World) (hR : Row w a n (iv xs)) (hS : Row w b m (iv ys)) (h : ¬ okStr noise xs ys) :
    Calls Try.prog 45 #[.slice a n c, .slice b m d, .int .i64 noise] w (RetS [] 2 w) := by
  have hx : xs.length = n := by have := hR.1; rwa [iv_length] at this
  have hy : ys.length = m := by have := hS.1; rwa [iv_length] at this
  by_cases j : 1 ≤ (n : Int) ∧ (n : Int) ≤ 8
  · by_cases k2 : n = m
    · rcases okStr_cases noise n m xs ys hx hy h with k | ⟨k1, k⟩ | ⟨k1, k2, k⟩ | ⟨k1, k2, k3, k⟩ | ⟨k1, k2, k3, k4, k⟩
      · exact absurd (fun z hz => by simp at hz; omega) k
      · exact absurd k2 k
      · exact rstripes_no2 noise a b n m c d xs ys hn hm w hR hS j k2 k
      · exact rstripes_no3 noise a b n m c d xs ys hn hm w hR hS j k2 k3 k
      · exact rstripes_no4 noise a b n m c d xs ys hn hm w hR hS j k2 k3 k4 k
    · exact rstripes_no1 noise a b n m c d xs ys hn hm w hR hS j k2
  · exact rstripes_no0 noise a b n m c d xs ys hn hm w hR hS j
end Go.Proofs.Yticclcimelibdaa
