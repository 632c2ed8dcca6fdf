/-
  The law GaugeEdges: the walk.
-/
import Derived.Deep.QuietTactic
import Derived.Test.YtdimmnoflenfhaaV6
namespace Go.Proofs.Ytdimmnoflenfhaa
open Go.RowKit Go.Shelf
set_option linter.unusedVariables false
set_option linter.unusedSimpArgs false

set_option maxRecDepth 100000 in
set_option maxHeartbeats 16000000 in
theorem edge_long (a : Option Addr) (n c : Nat) (zs : List Int) (t p y : Int) (w : World) (hm : n ≤ maxLen) (hl : 100 < n) :
    Calls Try.prog 5 #[.slice a n c, .int .i64 t, .int .i64 p, .int .i64 y] w fun e w' => e = .returned (.bool true) ∧ Below w.heap.size w w' := by
  have hd : decide (100 < (n : Int)) = true := by simp; omega
  unfold maxLen at hm
  go_enter Try.func5, Try.ntmps5
  go_wp2
  go_ret
  exact ⟨rfl, by (repeat' (first | (with_reducible exact Below.refl _ _) | (with_reducible assumption) | (with_reducible refine belowThru ?_ (by assumption)) | (with_reducible refine belowAlloc ?_) | (with_reducible refine Below.setCell ?_ (by first | omega | (simp; done) | (simp; omega)) _) | (with_reducible refine Below.drew ?_) | (with_reducible refine below_drewN ?_ _)))⟩
set_option maxRecDepth 100000 in
set_option maxHeartbeats 16000000 in
theorem edge_all (a : Option Addr) (n c : Nat) (zs : List Int) (t p y : Int) (A1 A2 A3 A4 B1 B2 B3 B4 D1 D2 D3 D4 E1 E2 E3 : Int) (hn : n ≤ 100) (w : World) (hR : Row w a n (iv zs)) (HF1 : Hid (∀ (a : Option Addr) (c : Nat) (w : World), Row w a n (iv zs) → Calls Try.prog 13 #[.slice a n c, .int .i64 t, .int .i64 p, .int .i64 y] w fun e w' => e = .returned (.tuple #[.agg #[.int .i64 A1, .int .i64 A2, .int .i64 A3, .int .i64 A4], .int .i64 E1]) ∧ Below w.heap.size w w')) (HF2 : Hid (∀ (a : Option Addr) (c : Nat) (w : World), Row w a n (iv zs) → Calls Try.prog 29 #[.slice a n c, .int .i64 t, .int .i64 p, .int .i64 y] w fun e w' => e = .returned (.tuple #[.agg #[.int .i64 A1, .int .i64 A2, .int .i64 A3, .int .i64 A4], .int .i64 E1]) ∧ Below w.heap.size w w')) (HL1 : Hid (∀ (a : Option Addr) (c : Nat) (w : World), Row w a n (iv zs) → Calls Try.prog 12 #[.slice a n c, .int .i64 t, .int .i64 p, .int .i64 y] w fun e w' => e = .returned (.tuple #[.agg #[.int .i64 B1, .int .i64 B2, .int .i64 B3, .int .i64 B4], .int .i64 E2]) ∧ Below w.heap.size w w')) (HL2 : Hid (∀ (a : Option Addr) (c : Nat) (w : World), Row w a n (iv zs) → Calls Try.prog 30 #[.slice a n c, .int .i64 t, .int .i64 p, .int .i64 y] w fun e w' => e = .returned (.tuple #[.agg #[.int .i64 B1, .int .i64 B2, .int .i64 B3, .int .i64 B4], .int .i64 E2]) ∧ Below w.heap.size w w')) (HW1 : Hid (∀ (a : Option Addr) (c : Nat) (w : World), Row w a n (iv zs) → Calls Try.prog 31 #[.slice a n c, .int .i64 t, .int .i64 y] w fun e w' => e = .returned (.tuple #[.agg #[.int .i64 D1, .int .i64 D2, .int .i64 D3, .int .i64 D4], .int .i64 E3]) ∧ Below w.heap.size w w')) (HW2 : Hid (∀ (a : Option Addr) (c : Nat) (w : World), Row w a n (iv zs) → Calls Try.prog 32 #[.slice a n c, .int .i64 t, .int .i64 y] w fun e w' => e = .returned (.tuple #[.agg #[.int .i64 D1, .int .i64 D2, .int .i64 D3, .int .i64 D4], .int .i64 E3]) ∧ Below w.heap.size w w')) :
    Calls Try.prog 5 #[.slice a n c, .int .i64 t, .int .i64 p, .int .i64 y] w fun e w' => e = .returned (.bool true) ∧ Below w.heap.size w w' := by
  have hd : decide (100 < (n : Int)) = false := by simp; omega
  have HA : Hid (∀ ty, ∃ r w', (Builtin.append_ #[27, 27] ty #[.slice (some ⟨w.heap.size, 0, none⟩) 0 0, .slice a n c]).run Try.prog (w.alloc (.cells #[] 3)) = .ok r w' ∧ ∃ (a' : Option Addr) (c' : Nat), r = .slice a' n c' ∧ Row w' a' n (iv zs) ∧ Below w.heap.size w w') := by
    intro ty
    obtain ⟨a', c', w', h1, h2, h3⟩ := run_append_lit ty a n c w.heap.size w.heap.size zs (by omega) (w.alloc (.cells #[] 3)) (Blk.new rfl) (Nat.le_refl _) (hR.later (by (repeat' (first | (with_reducible exact Below.refl _ _) | (with_reducible assumption) | (with_reducible refine belowThru ?_ (by assumption)) | (with_reducible refine belowAlloc ?_) | (with_reducible refine Below.setCell ?_ (by first | omega | (simp; done) | (simp; omega)) _) | (with_reducible refine Below.drew ?_) | (with_reducible refine below_drewN ?_ _)))))
    exact ⟨_, w', h1, a', c', rfl, h2, Below.trans (b := w.alloc (.cells #[] 3)) (by (repeat' (first | (with_reducible exact Below.refl _ _) | (with_reducible assumption) | (with_reducible refine belowThru ?_ (by assumption)) | (with_reducible refine belowAlloc ?_) | (with_reducible refine Below.setCell ?_ (by first | omega | (simp; done) | (simp; omega)) _) | (with_reducible refine Below.drew ?_) | (with_reducible refine below_drewN ?_ _)))) h3⟩
  have HQ : Hid (∀ (a b : Option Addr) (n c d : Nat) (xs : List Int) (hn : n ≤ maxLen) (w : World), Row w a n (iv xs) → Row w b n (iv xs) →
    Calls Try.prog 28 #[.slice a n c, .slice b n d] w fun e w' => e = .returned (.bool true) ∧ Below w.heap.size w w') := by
    intro a b n c d xs hn w h1 h2
    have := sameInts_any a b n n c d xs xs hn w h1 h2
    rwa [decide_eq_true rfl] at this
  have HR := Lib.hid hR
  have hnn : n ≤ maxLen := by unfold maxLen; omega
  clear hR
  go_enter Try.func5, Try.ntmps5
  go_wp2_with (at_builtin; (refine wpList_append_row rfl _ _ _ _ rfl _ _ rfl rfl (HA.out _) ?_); (rintro r w1 ⟨ao, no, rfl, hR1, hB1⟩))
  have HP := Lib.hid hR1
  have hBw : Below w.heap.size w w1 := hB1
  clear hR1 hB1 HA
  refine (HF1.out _ _ _ (HP.out.later (by (repeat' first | (with_reducible exact Below.refl _ _) | (with_reducible assumption) | (with_reducible refine belowThru ?_ (by assumption)) | (with_reducible refine belowAlloc ?_))))).mono ?_
  rintro e w2 ⟨rfl, hb⟩
  replace HP : Hid (Row w2 ao n (iv zs)) := Lib.hid (HP.out.later (by (repeat' (first | (with_reducible exact Below.refl _ _) | (with_reducible assumption) | (with_reducible refine belowThru ?_ (by assumption)) | (with_reducible refine belowAlloc ?_) | (with_reducible refine Below.setCell ?_ (by first | omega | (simp; done) | (simp; omega)) _) | (with_reducible refine Below.drew ?_) | (with_reducible refine below_drewN ?_ _)))))
  replace hBw : Below w.heap.size w w2 := belowThru (by (repeat' (first | (with_reducible exact Below.refl _ _) | (with_reducible assumption) | (with_reducible refine belowThru ?_ (by assumption)) | (with_reducible refine belowAlloc ?_) | (with_reducible refine Below.setCell ?_ (by first | omega | (simp; done) | (simp; omega)) _) | (with_reducible refine Below.drew ?_) | (with_reducible refine below_drewN ?_ _)))) hb
  have hzw2 := hBw.size
  clear hb
  go_wp2_with fail
  refine (HF2.out _ _ _ (HR.out.later (by (repeat' first | (with_reducible exact Below.refl _ _) | (with_reducible assumption) | (with_reducible refine belowThru ?_ (by assumption)) | (with_reducible refine belowAlloc ?_))))).mono ?_
  rintro e w3 ⟨rfl, hb⟩
  replace HP : Hid (Row w3 ao n (iv zs)) := Lib.hid (HP.out.later (by (repeat' (first | (with_reducible exact Below.refl _ _) | (with_reducible assumption) | (with_reducible refine belowThru ?_ (by assumption)) | (with_reducible refine belowAlloc ?_) | (with_reducible refine Below.setCell ?_ (by first | omega | (simp; done) | (simp; omega)) _) | (with_reducible refine Below.drew ?_) | (with_reducible refine below_drewN ?_ _)))))
  have kn0 : Blk w3 (w2.heap.size) #[.int .i64 A1, .int .i64 A2, .int .i64 A3, .int .i64 A4] 30 := Blk.later hb (by (repeat' (first | (with_reducible assumption) | (with_reducible refine Blk.set2 ?_) | ((with_reducible refine Blk.new ?_); first | rfl | (simp; done)) | (with_reducible refine Blk.later (by assumption) ?_) | (with_reducible refine Blk.alloc ?_) | (with_reducible refine Blk.drewN ?_) | (with_reducible refine Blk.drew ?_) | (with_reducible refine Blk.other ?_ (by first | omega | (simp; done) | (simp; omega))))))
  have k0 := kn0; clear kn0; obtain ⟨a0, b0⟩ := k0.read; have y0 := k0.lt
  replace hBw : Below w.heap.size w w3 := belowThru (by (repeat' (first | (with_reducible exact Below.refl _ _) | (with_reducible assumption) | (with_reducible refine belowThru ?_ (by assumption)) | (with_reducible refine belowAlloc ?_) | (with_reducible refine Below.setCell ?_ (by first | omega | (simp; done) | (simp; omega)) _) | (with_reducible refine Below.drew ?_) | (with_reducible refine below_drewN ?_ _)))) hb
  have hzw3 := hBw.size
  clear hb
  go_wp2_with fail
  refine (HL1.out _ _ _ (HP.out.later (by (repeat' first | (with_reducible exact Below.refl _ _) | (with_reducible assumption) | (with_reducible refine belowThru ?_ (by assumption)) | (with_reducible refine belowAlloc ?_))))).mono ?_
  rintro e w4 ⟨rfl, hb⟩
  replace HP : Hid (Row w4 ao n (iv zs)) := Lib.hid (HP.out.later (by (repeat' (first | (with_reducible exact Below.refl _ _) | (with_reducible assumption) | (with_reducible refine belowThru ?_ (by assumption)) | (with_reducible refine belowAlloc ?_) | (with_reducible refine Below.setCell ?_ (by first | omega | (simp; done) | (simp; omega)) _) | (with_reducible refine Below.drew ?_) | (with_reducible refine below_drewN ?_ _)))))
  have kn0 : Blk w4 (w2.heap.size) #[.int .i64 A1, .int .i64 A2, .int .i64 A3, .int .i64 A4] 30 := Blk.later hb (by (repeat' (first | (with_reducible assumption) | (with_reducible refine Blk.set2 ?_) | ((with_reducible refine Blk.new ?_); first | rfl | (simp; done)) | (with_reducible refine Blk.later (by assumption) ?_) | (with_reducible refine Blk.alloc ?_) | (with_reducible refine Blk.drewN ?_) | (with_reducible refine Blk.drew ?_) | (with_reducible refine Blk.other ?_ (by first | omega | (simp; done) | (simp; omega))))))
  have kn1 : Blk w4 (w3.heap.size) #[.int .i64 A1, .int .i64 A2, .int .i64 A3, .int .i64 A4] 30 := Blk.later hb (by (repeat' (first | (with_reducible assumption) | (with_reducible refine Blk.set2 ?_) | ((with_reducible refine Blk.new ?_); first | rfl | (simp; done)) | (with_reducible refine Blk.later (by assumption) ?_) | (with_reducible refine Blk.alloc ?_) | (with_reducible refine Blk.drewN ?_) | (with_reducible refine Blk.drew ?_) | (with_reducible refine Blk.other ?_ (by first | omega | (simp; done) | (simp; omega))))))
  clear k0 a0 b0 y0
  have k0 := kn0; clear kn0; obtain ⟨a0, b0⟩ := k0.read; have y0 := k0.lt
  have k1 := kn1; clear kn1; obtain ⟨a1, b1⟩ := k1.read; have y1 := k1.lt
  replace hBw : Below w.heap.size w w4 := belowThru (by (repeat' (first | (with_reducible exact Below.refl _ _) | (with_reducible assumption) | (with_reducible refine belowThru ?_ (by assumption)) | (with_reducible refine belowAlloc ?_) | (with_reducible refine Below.setCell ?_ (by first | omega | (simp; done) | (simp; omega)) _) | (with_reducible refine Below.drew ?_) | (with_reducible refine below_drewN ?_ _)))) hb
  have hzw4 := hBw.size
  clear hb
  go_wp2_with fail
  refine (HL2.out _ _ _ (HR.out.later (by (repeat' first | (with_reducible exact Below.refl _ _) | (with_reducible assumption) | (with_reducible refine belowThru ?_ (by assumption)) | (with_reducible refine belowAlloc ?_))))).mono ?_
  rintro e w5 ⟨rfl, hb⟩
  replace HP : Hid (Row w5 ao n (iv zs)) := Lib.hid (HP.out.later (by (repeat' (first | (with_reducible exact Below.refl _ _) | (with_reducible assumption) | (with_reducible refine belowThru ?_ (by assumption)) | (with_reducible refine belowAlloc ?_) | (with_reducible refine Below.setCell ?_ (by first | omega | (simp; done) | (simp; omega)) _) | (with_reducible refine Below.drew ?_) | (with_reducible refine below_drewN ?_ _)))))
  have kn0 : Blk w5 (w2.heap.size) #[.int .i64 A1, .int .i64 A2, .int .i64 A3, .int .i64 A4] 30 := Blk.later hb (by (repeat' (first | (with_reducible assumption) | (with_reducible refine Blk.set2 ?_) | ((with_reducible refine Blk.new ?_); first | rfl | (simp; done)) | (with_reducible refine Blk.later (by assumption) ?_) | (with_reducible refine Blk.alloc ?_) | (with_reducible refine Blk.drewN ?_) | (with_reducible refine Blk.drew ?_) | (with_reducible refine Blk.other ?_ (by first | omega | (simp; done) | (simp; omega))))))
  have kn1 : Blk w5 (w3.heap.size) #[.int .i64 A1, .int .i64 A2, .int .i64 A3, .int .i64 A4] 30 := Blk.later hb (by (repeat' (first | (with_reducible assumption) | (with_reducible refine Blk.set2 ?_) | ((with_reducible refine Blk.new ?_); first | rfl | (simp; done)) | (with_reducible refine Blk.later (by assumption) ?_) | (with_reducible refine Blk.alloc ?_) | (with_reducible refine Blk.drewN ?_) | (with_reducible refine Blk.drew ?_) | (with_reducible refine Blk.other ?_ (by first | omega | (simp; done) | (simp; omega))))))
  have kn2 : Blk w5 (w4.heap.size) #[.int .i64 B1, .int .i64 B2, .int .i64 B3, .int .i64 B4] 30 := Blk.later hb (by (repeat' (first | (with_reducible assumption) | (with_reducible refine Blk.set2 ?_) | ((with_reducible refine Blk.new ?_); first | rfl | (simp; done)) | (with_reducible refine Blk.later (by assumption) ?_) | (with_reducible refine Blk.alloc ?_) | (with_reducible refine Blk.drewN ?_) | (with_reducible refine Blk.drew ?_) | (with_reducible refine Blk.other ?_ (by first | omega | (simp; done) | (simp; omega))))))
  clear k0 a0 b0 y0
  clear k1 a1 b1 y1
  have k0 := kn0; clear kn0; obtain ⟨a0, b0⟩ := k0.read; have y0 := k0.lt
  have k1 := kn1; clear kn1; obtain ⟨a1, b1⟩ := k1.read; have y1 := k1.lt
  have k2 := kn2; clear kn2; obtain ⟨a2, b2⟩ := k2.read; have y2 := k2.lt
  replace hBw : Below w.heap.size w w5 := belowThru (by (repeat' (first | (with_reducible exact Below.refl _ _) | (with_reducible assumption) | (with_reducible refine belowThru ?_ (by assumption)) | (with_reducible refine belowAlloc ?_) | (with_reducible refine Below.setCell ?_ (by first | omega | (simp; done) | (simp; omega)) _) | (with_reducible refine Below.drew ?_) | (with_reducible refine below_drewN ?_ _)))) hb
  have hzw5 := hBw.size
  clear hb
  go_wp2_with fail
  refine (HW1.out _ _ _ (HP.out.later (by (repeat' first | (with_reducible exact Below.refl _ _) | (with_reducible assumption) | (with_reducible refine belowThru ?_ (by assumption)) | (with_reducible refine belowAlloc ?_))))).mono ?_
  rintro e w6 ⟨rfl, hb⟩
  replace HP : Hid (Row w6 ao n (iv zs)) := Lib.hid (HP.out.later (by (repeat' (first | (with_reducible exact Below.refl _ _) | (with_reducible assumption) | (with_reducible refine belowThru ?_ (by assumption)) | (with_reducible refine belowAlloc ?_) | (with_reducible refine Below.setCell ?_ (by first | omega | (simp; done) | (simp; omega)) _) | (with_reducible refine Below.drew ?_) | (with_reducible refine below_drewN ?_ _)))))
  have kn0 : Blk w6 (w2.heap.size) #[.int .i64 A1, .int .i64 A2, .int .i64 A3, .int .i64 A4] 30 := Blk.later hb (by (repeat' (first | (with_reducible assumption) | (with_reducible refine Blk.set2 ?_) | ((with_reducible refine Blk.new ?_); first | rfl | (simp; done)) | (with_reducible refine Blk.later (by assumption) ?_) | (with_reducible refine Blk.alloc ?_) | (with_reducible refine Blk.drewN ?_) | (with_reducible refine Blk.drew ?_) | (with_reducible refine Blk.other ?_ (by first | omega | (simp; done) | (simp; omega))))))
  have kn1 : Blk w6 (w3.heap.size) #[.int .i64 A1, .int .i64 A2, .int .i64 A3, .int .i64 A4] 30 := Blk.later hb (by (repeat' (first | (with_reducible assumption) | (with_reducible refine Blk.set2 ?_) | ((with_reducible refine Blk.new ?_); first | rfl | (simp; done)) | (with_reducible refine Blk.later (by assumption) ?_) | (with_reducible refine Blk.alloc ?_) | (with_reducible refine Blk.drewN ?_) | (with_reducible refine Blk.drew ?_) | (with_reducible refine Blk.other ?_ (by first | omega | (simp; done) | (simp; omega))))))
  have kn2 : Blk w6 (w4.heap.size) #[.int .i64 B1, .int .i64 B2, .int .i64 B3, .int .i64 B4] 30 := Blk.later hb (by (repeat' (first | (with_reducible assumption) | (with_reducible refine Blk.set2 ?_) | ((with_reducible refine Blk.new ?_); first | rfl | (simp; done)) | (with_reducible refine Blk.later (by assumption) ?_) | (with_reducible refine Blk.alloc ?_) | (with_reducible refine Blk.drewN ?_) | (with_reducible refine Blk.drew ?_) | (with_reducible refine Blk.other ?_ (by first | omega | (simp; done) | (simp; omega))))))
  have kn3 : Blk w6 (w5.heap.size) #[.int .i64 B1, .int .i64 B2, .int .i64 B3, .int .i64 B4] 30 := Blk.later hb (by (repeat' (first | (with_reducible assumption) | (with_reducible refine Blk.set2 ?_) | ((with_reducible refine Blk.new ?_); first | rfl | (simp; done)) | (with_reducible refine Blk.later (by assumption) ?_) | (with_reducible refine Blk.alloc ?_) | (with_reducible refine Blk.drewN ?_) | (with_reducible refine Blk.drew ?_) | (with_reducible refine Blk.other ?_ (by first | omega | (simp; done) | (simp; omega))))))
  clear k0 a0 b0 y0
  clear k1 a1 b1 y1
  clear k2 a2 b2 y2
  have k0 := kn0; clear kn0; obtain ⟨a0, b0⟩ := k0.read; have y0 := k0.lt
  have k1 := kn1; clear kn1; obtain ⟨a1, b1⟩ := k1.read; have y1 := k1.lt
  have k2 := kn2; clear kn2; obtain ⟨a2, b2⟩ := k2.read; have y2 := k2.lt
  have k3 := kn3; clear kn3; obtain ⟨a3, b3⟩ := k3.read; have y3 := k3.lt
  replace hBw : Below w.heap.size w w6 := belowThru (by (repeat' (first | (with_reducible exact Below.refl _ _) | (with_reducible assumption) | (with_reducible refine belowThru ?_ (by assumption)) | (with_reducible refine belowAlloc ?_) | (with_reducible refine Below.setCell ?_ (by first | omega | (simp; done) | (simp; omega)) _) | (with_reducible refine Below.drew ?_) | (with_reducible refine below_drewN ?_ _)))) hb
  have hzw6 := hBw.size
  clear hb
  go_wp2_with fail
  refine (HW2.out _ _ _ (HR.out.later (by (repeat' first | (with_reducible exact Below.refl _ _) | (with_reducible assumption) | (with_reducible refine belowThru ?_ (by assumption)) | (with_reducible refine belowAlloc ?_))))).mono ?_
  rintro e w7 ⟨rfl, hb⟩
  replace HP : Hid (Row w7 ao n (iv zs)) := Lib.hid (HP.out.later (by (repeat' (first | (with_reducible exact Below.refl _ _) | (with_reducible assumption) | (with_reducible refine belowThru ?_ (by assumption)) | (with_reducible refine belowAlloc ?_) | (with_reducible refine Below.setCell ?_ (by first | omega | (simp; done) | (simp; omega)) _) | (with_reducible refine Below.drew ?_) | (with_reducible refine below_drewN ?_ _)))))
  have kn0 : Blk w7 (w2.heap.size) #[.int .i64 A1, .int .i64 A2, .int .i64 A3, .int .i64 A4] 30 := Blk.later hb (by (repeat' (first | (with_reducible assumption) | (with_reducible refine Blk.set2 ?_) | ((with_reducible refine Blk.new ?_); first | rfl | (simp; done)) | (with_reducible refine Blk.later (by assumption) ?_) | (with_reducible refine Blk.alloc ?_) | (with_reducible refine Blk.drewN ?_) | (with_reducible refine Blk.drew ?_) | (with_reducible refine Blk.other ?_ (by first | omega | (simp; done) | (simp; omega))))))
  have kn1 : Blk w7 (w3.heap.size) #[.int .i64 A1, .int .i64 A2, .int .i64 A3, .int .i64 A4] 30 := Blk.later hb (by (repeat' (first | (with_reducible assumption) | (with_reducible refine Blk.set2 ?_) | ((with_reducible refine Blk.new ?_); first | rfl | (simp; done)) | (with_reducible refine Blk.later (by assumption) ?_) | (with_reducible refine Blk.alloc ?_) | (with_reducible refine Blk.drewN ?_) | (with_reducible refine Blk.drew ?_) | (with_reducible refine Blk.other ?_ (by first | omega | (simp; done) | (simp; omega))))))
  have kn2 : Blk w7 (w4.heap.size) #[.int .i64 B1, .int .i64 B2, .int .i64 B3, .int .i64 B4] 30 := Blk.later hb (by (repeat' (first | (with_reducible assumption) | (with_reducible refine Blk.set2 ?_) | ((with_reducible refine Blk.new ?_); first | rfl | (simp; done)) | (with_reducible refine Blk.later (by assumption) ?_) | (with_reducible refine Blk.alloc ?_) | (with_reducible refine Blk.drewN ?_) | (with_reducible refine Blk.drew ?_) | (with_reducible refine Blk.other ?_ (by first | omega | (simp; done) | (simp; omega))))))
  have kn3 : Blk w7 (w5.heap.size) #[.int .i64 B1, .int .i64 B2, .int .i64 B3, .int .i64 B4] 30 := Blk.later hb (by (repeat' (first | (with_reducible assumption) | (with_reducible refine Blk.set2 ?_) | ((with_reducible refine Blk.new ?_); first | rfl | (simp; done)) | (with_reducible refine Blk.later (by assumption) ?_) | (with_reducible refine Blk.alloc ?_) | (with_reducible refine Blk.drewN ?_) | (with_reducible refine Blk.drew ?_) | (with_reducible refine Blk.other ?_ (by first | omega | (simp; done) | (simp; omega))))))
  have kn4 : Blk w7 (w6.heap.size) #[.int .i64 D1, .int .i64 D2, .int .i64 D3, .int .i64 D4] 30 := Blk.later hb (by (repeat' (first | (with_reducible assumption) | (with_reducible refine Blk.set2 ?_) | ((with_reducible refine Blk.new ?_); first | rfl | (simp; done)) | (with_reducible refine Blk.later (by assumption) ?_) | (with_reducible refine Blk.alloc ?_) | (with_reducible refine Blk.drewN ?_) | (with_reducible refine Blk.drew ?_) | (with_reducible refine Blk.other ?_ (by first | omega | (simp; done) | (simp; omega))))))
  clear k0 a0 b0 y0
  clear k1 a1 b1 y1
  clear k2 a2 b2 y2
  clear k3 a3 b3 y3
  have k0 := kn0; clear kn0; obtain ⟨a0, b0⟩ := k0.read; have y0 := k0.lt
  have k1 := kn1; clear kn1; obtain ⟨a1, b1⟩ := k1.read; have y1 := k1.lt
  have k2 := kn2; clear kn2; obtain ⟨a2, b2⟩ := k2.read; have y2 := k2.lt
  have k3 := kn3; clear kn3; obtain ⟨a3, b3⟩ := k3.read; have y3 := k3.lt
  have k4 := kn4; clear kn4; obtain ⟨a4, b4⟩ := k4.read; have y4 := k4.lt
  replace hBw : Below w.heap.size w w7 := belowThru (by (repeat' (first | (with_reducible exact Below.refl _ _) | (with_reducible assumption) | (with_reducible refine belowThru ?_ (by assumption)) | (with_reducible refine belowAlloc ?_) | (with_reducible refine Below.setCell ?_ (by first | omega | (simp; done) | (simp; omega)) _) | (with_reducible refine Below.drew ?_) | (with_reducible refine below_drewN ?_ _)))) hb
  have hzw7 := hBw.size
  clear hb
  go_wp2_with fail
  refine (HQ.out _ _ _ _ _ zs hnn _ (HP.out.later (by (repeat' first | (with_reducible exact Below.refl _ _) | (with_reducible assumption) | (with_reducible refine belowThru ?_ (by assumption)) | (with_reducible refine belowAlloc ?_)))) (HR.out.later (by (repeat' first | (with_reducible exact Below.refl _ _) | (with_reducible assumption) | (with_reducible refine belowThru ?_ (by assumption)) | (with_reducible refine belowAlloc ?_))))).mono ?_
  rintro e w8 ⟨rfl, hb⟩
  replace HP : Hid (Row w8 ao n (iv zs)) := Lib.hid (HP.out.later (by (repeat' (first | (with_reducible exact Below.refl _ _) | (with_reducible assumption) | (with_reducible refine belowThru ?_ (by assumption)) | (with_reducible refine belowAlloc ?_) | (with_reducible refine Below.setCell ?_ (by first | omega | (simp; done) | (simp; omega)) _) | (with_reducible refine Below.drew ?_) | (with_reducible refine below_drewN ?_ _)))))
  have kn0 : Blk w8 (w2.heap.size) #[.int .i64 A1, .int .i64 A2, .int .i64 A3, .int .i64 A4] 30 := Blk.later hb (by (repeat' (first | (with_reducible assumption) | (with_reducible refine Blk.set2 ?_) | ((with_reducible refine Blk.new ?_); first | rfl | (simp; done)) | (with_reducible refine Blk.later (by assumption) ?_) | (with_reducible refine Blk.alloc ?_) | (with_reducible refine Blk.drewN ?_) | (with_reducible refine Blk.drew ?_) | (with_reducible refine Blk.other ?_ (by first | omega | (simp; done) | (simp; omega))))))
  have kn1 : Blk w8 (w3.heap.size) #[.int .i64 A1, .int .i64 A2, .int .i64 A3, .int .i64 A4] 30 := Blk.later hb (by (repeat' (first | (with_reducible assumption) | (with_reducible refine Blk.set2 ?_) | ((with_reducible refine Blk.new ?_); first | rfl | (simp; done)) | (with_reducible refine Blk.later (by assumption) ?_) | (with_reducible refine Blk.alloc ?_) | (with_reducible refine Blk.drewN ?_) | (with_reducible refine Blk.drew ?_) | (with_reducible refine Blk.other ?_ (by first | omega | (simp; done) | (simp; omega))))))
  have kn2 : Blk w8 (w4.heap.size) #[.int .i64 B1, .int .i64 B2, .int .i64 B3, .int .i64 B4] 30 := Blk.later hb (by (repeat' (first | (with_reducible assumption) | (with_reducible refine Blk.set2 ?_) | ((with_reducible refine Blk.new ?_); first | rfl | (simp; done)) | (with_reducible refine Blk.later (by assumption) ?_) | (with_reducible refine Blk.alloc ?_) | (with_reducible refine Blk.drewN ?_) | (with_reducible refine Blk.drew ?_) | (with_reducible refine Blk.other ?_ (by first | omega | (simp; done) | (simp; omega))))))
  have kn3 : Blk w8 (w5.heap.size) #[.int .i64 B1, .int .i64 B2, .int .i64 B3, .int .i64 B4] 30 := Blk.later hb (by (repeat' (first | (with_reducible assumption) | (with_reducible refine Blk.set2 ?_) | ((with_reducible refine Blk.new ?_); first | rfl | (simp; done)) | (with_reducible refine Blk.later (by assumption) ?_) | (with_reducible refine Blk.alloc ?_) | (with_reducible refine Blk.drewN ?_) | (with_reducible refine Blk.drew ?_) | (with_reducible refine Blk.other ?_ (by first | omega | (simp; done) | (simp; omega))))))
  have kn4 : Blk w8 (w6.heap.size) #[.int .i64 D1, .int .i64 D2, .int .i64 D3, .int .i64 D4] 30 := Blk.later hb (by (repeat' (first | (with_reducible assumption) | (with_reducible refine Blk.set2 ?_) | ((with_reducible refine Blk.new ?_); first | rfl | (simp; done)) | (with_reducible refine Blk.later (by assumption) ?_) | (with_reducible refine Blk.alloc ?_) | (with_reducible refine Blk.drewN ?_) | (with_reducible refine Blk.drew ?_) | (with_reducible refine Blk.other ?_ (by first | omega | (simp; done) | (simp; omega))))))
  have kn5 : Blk w8 (w7.heap.size) #[.int .i64 D1, .int .i64 D2, .int .i64 D3, .int .i64 D4] 30 := Blk.later hb (by (repeat' (first | (with_reducible assumption) | (with_reducible refine Blk.set2 ?_) | ((with_reducible refine Blk.new ?_); first | rfl | (simp; done)) | (with_reducible refine Blk.later (by assumption) ?_) | (with_reducible refine Blk.alloc ?_) | (with_reducible refine Blk.drewN ?_) | (with_reducible refine Blk.drew ?_) | (with_reducible refine Blk.other ?_ (by first | omega | (simp; done) | (simp; omega))))))
  clear k0 a0 b0 y0
  clear k1 a1 b1 y1
  clear k2 a2 b2 y2
  clear k3 a3 b3 y3
  clear k4 a4 b4 y4
  have k0 := kn0; clear kn0; obtain ⟨a0, b0⟩ := k0.read; have y0 := k0.lt
  have k1 := kn1; clear kn1; obtain ⟨a1, b1⟩ := k1.read; have y1 := k1.lt
  have k2 := kn2; clear kn2; obtain ⟨a2, b2⟩ := k2.read; have y2 := k2.lt
  have k3 := kn3; clear kn3; obtain ⟨a3, b3⟩ := k3.read; have y3 := k3.lt
  have k4 := kn4; clear kn4; obtain ⟨a4, b4⟩ := k4.read; have y4 := k4.lt
  have k5 := kn5; clear kn5; obtain ⟨a5, b5⟩ := k5.read; have y5 := k5.lt
  replace hBw : Below w.heap.size w w8 := belowThru (by (repeat' (first | (with_reducible exact Below.refl _ _) | (with_reducible assumption) | (with_reducible refine belowThru ?_ (by assumption)) | (with_reducible refine belowAlloc ?_) | (with_reducible refine Below.setCell ?_ (by first | omega | (simp; done) | (simp; omega)) _) | (with_reducible refine Below.drew ?_) | (with_reducible refine below_drewN ?_ _)))) hb
  have hzw8 := hBw.size
  clear hb
  go_wp2_with fail
  go_ret
  exact ⟨rfl, by (repeat' (first | (with_reducible exact Below.refl _ _) | (with_reducible assumption) | (with_reducible refine belowThru ?_ (by assumption)) | (with_reducible refine belowAlloc ?_) | (with_reducible refine Below.setCell ?_ (by first | omega | (simp; done) | (simp; omega)) _) | (with_reducible refine Below.drew ?_) | (with_reducible refine below_drewN ?_ _)))⟩
end Go.Proofs.Ytdimmnoflenfhaa
