/-
  Layer 9: Tell, by the code.
-/
import Derived.Test.YtnkpejinnbiocaaVOpn
namespace Go.Proofs.Ytnkpejinnbiocaa
open Go.RowKit Go.Shelf
set_option linter.unusedVariables false
set_option linter.unusedSimpArgs false


set_option maxRecDepth 100000 in
set_option maxHeartbeats 16000000 in
theorem tell1_any (q1 q2 q3 : Int) (q4 : Bool) (id : Int) (Bi : Nat) (w : World) (k : Blk w Bi #[.int .i64 id] 3) :
    Calls Try.prog 33 #[.agg #[.int .i64 q1, .int .i64 q2, .int .u8 q3, .bool q4], .pointer (some ⟨Bi, 0, none⟩)] w fun e w' => e = .returned (.bool (q1 == id)) ∧ Below w.heap.size w w' := by
  obtain ⟨a0, b0⟩ := k.read
  have y0 := k.lt
  have hne : Bi ≠ w.heap.size := by omega
  go_enter Try.func33, Try.ntmps33
  go_wp2
  go_ret
  exact ⟨rfl, by (repeat' (first | (with_reducible exact Below.refl _ _) | (with_reducible assumption) | (with_reducible refine belowThru ?_ (by assumption)) | (with_reducible refine belowAlloc ?_) | (with_reducible refine Below.setCell ?_ (by first | omega | (simp; done) | (simp; omega)) _) | (with_reducible refine Below.drew ?_) | (with_reducible refine below_drewN ?_ _)))⟩
theorem tellIx (a : Option Addr) (n cap : Nat) (xs : List Sn) (id r : Int) (hn : n ≤ maxLen) (h : fxB (fun x => x.1 == id) xs = r) : Hid (∀ (W : World) (Bi : Nat), Blk W Bi #[.int .i64 id] 3 → RowK 4 sn1 W a n xs → Calls Try.prog 32 #[.slice a n cap, .func (.func 33) #[] #[.pointer (some ⟨Bi, 0, none⟩)]] W fun e w' => e = .returned (.int .i64 r) ∧ Below W.heap.size W w') := fun W Bi kb hR => by
  have := indexFunc_any a n cap xs 33 #[.pointer (some ⟨Bi, 0, none⟩)] (fun x => x.1 == id) (enters_of Try.func33 (by kernel_rfl) rfl) hn W hR (fun q1 q2 q3 q4 W1 hm hb => tell1_any q1 q2 q3 q4 id Bi W1 (Blk.later hb kb))
  rwa [h] at this
set_option maxRecDepth 100000 in
set_option maxHeartbeats 16000000 in
theorem tell_bad (s p g l c nx : Int) (a : Option Addr) (n cap : Nat) (id vd : Int) (xs : List Sn) (E : Int) (hE : (E != 0) = true) (w : World) (hR : RowK 4 sn1 w a n xs) (HC : Hid (∀ w, RowK 4 sn1 w a n xs → Calls Try.prog 14 #[.agg #[.int .i64 s, .int .i64 p, .int .i64 g, .int .i64 l, .int .i64 c, .int .i64 nx, .slice a n cap]] w fun e w' => e = .returned (.int .i64 E) ∧ Below w.heap.size w w')) :
    Calls Try.prog 12 #[.agg #[.int .i64 s, .int .i64 p, .int .i64 g, .int .i64 l, .int .i64 c, .int .i64 nx, .slice a n cap], .int .i64 id, .int .u8 vd] w fun e w' => e = .returned (.tuple #[.agg #[.int .i64 0, .int .i64 0, .int .i64 0, .int .i64 0, .int .i64 0, .int .i64 0, .slice none 0 0], .int .i64 E]) ∧ Below w.heap.size w w' := by
  have HR := Lib.hid hR
  clear hR
  go_enter Try.func12, Try.ntmps12
  go_wp2_with fail
  refine (HC.out _ (HR.out.later (by (repeat' (first | (with_reducible exact Below.refl _ _) | (with_reducible assumption) | (with_reducible refine belowThru ?_ (by assumption)) | (with_reducible refine belowAlloc ?_) | (with_reducible refine Below.setCell ?_ (by first | omega | (simp; done) | (simp; omega)) _) | (with_reducible refine Below.drew ?_) | (with_reducible refine below_drewN ?_ _)))))).mono ?_
  rintro e w1 ⟨rfl, hb⟩
  have kT : Blk w1 w.heap.size #[.int .i64 s, .int .i64 p, .int .i64 g, .int .i64 l, .int .i64 c, .int .i64 nx, .slice a n cap] 26 := Blk.later hb (Blk.alloc (Blk.alloc (Blk.new rfl)))
  have kI : Blk w1 (w.heap.size + 1) #[.int .i64 id] 3 := Blk.later hb (Blk.alloc (Blk.new (by simp)))
  have kR : Blk w1 (w.heap.size + 1 + 1) #[.int .i64 0, .int .i64 0, .int .i64 0, .int .i64 0, .int .i64 0, .int .i64 0, .slice none 0 0] 26 := Blk.later hb (Blk.new (by simp))
  have hB : Below w.heap.size w w1 := belowThru (belowAlloc (belowAlloc (belowAlloc (Below.refl _ _)))) hb
  clear hb
  obtain ⟨aT, bT⟩ := kT.read; obtain ⟨aR, bR⟩ := kR.read; have yT := kT.lt; have yR := kR.lt
  go_wp2_with fail
  have q2 := (kR.set7 (.int .i64 0) (.int .i64 0) (.int .i64 0) (.int .i64 0) (.int .i64 0) (.int .i64 0) (.slice none 0 0)).cells
  exact bodyPost_ret (v := .tuple #[.agg #[.int .i64 0, .int .i64 0, .int .i64 0, .int .i64 0, .int .i64 0, .int .i64 0, .slice none 0 0], .int .i64 E]) (by simp only [results, Try.results12]; go_simp) rfl ⟨rfl, by (repeat' (first | (with_reducible exact Below.refl _ _) | (with_reducible assumption) | (with_reducible refine belowThru ?_ (by assumption)) | (with_reducible refine belowAlloc ?_) | (with_reducible refine Below.setCell ?_ (by first | omega | (simp; done) | (simp; omega)) _) | (with_reducible refine Below.drew ?_) | (with_reducible refine below_drewN ?_ _)))⟩

set_option maxRecDepth 100000 in
set_option maxHeartbeats 16000000 in
theorem tell_arg (s p g l c nx : Int) (a : Option Addr) (n cap : Nat) (id vd : Int) (xs : List Sn) (hv : vd < 1 ∨ 3 < vd) (w : World) (hR : RowK 4 sn1 w a n xs) (HC : Hid (∀ w, RowK 4 sn1 w a n xs → Calls Try.prog 14 #[.agg #[.int .i64 s, .int .i64 p, .int .i64 g, .int .i64 l, .int .i64 c, .int .i64 nx, .slice a n cap]] w fun e w' => e = .returned (.int .i64 0) ∧ Below w.heap.size w w')) :
    Calls Try.prog 12 #[.agg #[.int .i64 s, .int .i64 p, .int .i64 g, .int .i64 l, .int .i64 c, .int .i64 nx, .slice a n cap], .int .i64 id, .int .u8 vd] w fun e w' => e = .returned (.tuple #[.agg #[.int .i64 0, .int .i64 0, .int .i64 0, .int .i64 0, .int .i64 0, .int .i64 0, .slice none 0 0], .int .i64 2]) ∧ Below w.heap.size w w' := by
  rcases hv with hv | hv
  · have hd : decide (vd < 1) = true := decide_eq_true hv
    clear hv
    have HR := Lib.hid hR
    clear hR
    go_enter Try.func12, Try.ntmps12
    go_wp2_with fail
    refine (HC.out _ (HR.out.later (by (repeat' (first | (with_reducible exact Below.refl _ _) | (with_reducible assumption) | (with_reducible refine belowThru ?_ (by assumption)) | (with_reducible refine belowAlloc ?_) | (with_reducible refine Below.setCell ?_ (by first | omega | (simp; done) | (simp; omega)) _) | (with_reducible refine Below.drew ?_) | (with_reducible refine below_drewN ?_ _)))))).mono ?_
    rintro e w1 ⟨rfl, hb⟩
    have kT : Blk w1 w.heap.size #[.int .i64 s, .int .i64 p, .int .i64 g, .int .i64 l, .int .i64 c, .int .i64 nx, .slice a n cap] 26 := Blk.later hb (Blk.alloc (Blk.alloc (Blk.new rfl)))
    have kI : Blk w1 (w.heap.size + 1) #[.int .i64 id] 3 := Blk.later hb (Blk.alloc (Blk.new (by simp)))
    have kR : Blk w1 (w.heap.size + 1 + 1) #[.int .i64 0, .int .i64 0, .int .i64 0, .int .i64 0, .int .i64 0, .int .i64 0, .slice none 0 0] 26 := Blk.later hb (Blk.new (by simp))
    have hB : Below w.heap.size w w1 := belowThru (belowAlloc (belowAlloc (belowAlloc (Below.refl _ _)))) hb
    clear hb
    obtain ⟨aT, bT⟩ := kT.read; obtain ⟨aR, bR⟩ := kR.read; have yT := kT.lt; have yR := kR.lt
    go_wp2_with fail
    have q2 := (kR.set7 (.int .i64 0) (.int .i64 0) (.int .i64 0) (.int .i64 0) (.int .i64 0) (.int .i64 0) (.slice none 0 0)).cells
    exact bodyPost_ret (v := .tuple #[.agg #[.int .i64 0, .int .i64 0, .int .i64 0, .int .i64 0, .int .i64 0, .int .i64 0, .slice none 0 0], .int .i64 2]) (by simp only [results, Try.results12]; go_simp) rfl ⟨rfl, by (repeat' (first | (with_reducible exact Below.refl _ _) | (with_reducible assumption) | (with_reducible refine belowThru ?_ (by assumption)) | (with_reducible refine belowAlloc ?_) | (with_reducible refine Below.setCell ?_ (by first | omega | (simp; done) | (simp; omega)) _) | (with_reducible refine Below.drew ?_) | (with_reducible refine below_drewN ?_ _)))⟩

  · have hd : decide (vd < 1) = false := decide_eq_false (by omega)
    have hd2 : decide (3 < vd) = true := decide_eq_true hv
    clear hv
    have HR := Lib.hid hR
    clear hR
    go_enter Try.func12, Try.ntmps12
    go_wp2_with fail
    refine (HC.out _ (HR.out.later (by (repeat' (first | (with_reducible exact Below.refl _ _) | (with_reducible assumption) | (with_reducible refine belowThru ?_ (by assumption)) | (with_reducible refine belowAlloc ?_) | (with_reducible refine Below.setCell ?_ (by first | omega | (simp; done) | (simp; omega)) _) | (with_reducible refine Below.drew ?_) | (with_reducible refine below_drewN ?_ _)))))).mono ?_
    rintro e w1 ⟨rfl, hb⟩
    have kT : Blk w1 w.heap.size #[.int .i64 s, .int .i64 p, .int .i64 g, .int .i64 l, .int .i64 c, .int .i64 nx, .slice a n cap] 26 := Blk.later hb (Blk.alloc (Blk.alloc (Blk.new rfl)))
    have kI : Blk w1 (w.heap.size + 1) #[.int .i64 id] 3 := Blk.later hb (Blk.alloc (Blk.new (by simp)))
    have kR : Blk w1 (w.heap.size + 1 + 1) #[.int .i64 0, .int .i64 0, .int .i64 0, .int .i64 0, .int .i64 0, .int .i64 0, .slice none 0 0] 26 := Blk.later hb (Blk.new (by simp))
    have hB : Below w.heap.size w w1 := belowThru (belowAlloc (belowAlloc (belowAlloc (Below.refl _ _)))) hb
    clear hb
    obtain ⟨aT, bT⟩ := kT.read; obtain ⟨aR, bR⟩ := kR.read; have yT := kT.lt; have yR := kR.lt
    go_wp2_with fail
    have q2 := (kR.set7 (.int .i64 0) (.int .i64 0) (.int .i64 0) (.int .i64 0) (.int .i64 0) (.int .i64 0) (.slice none 0 0)).cells
    exact bodyPost_ret (v := .tuple #[.agg #[.int .i64 0, .int .i64 0, .int .i64 0, .int .i64 0, .int .i64 0, .int .i64 0, .slice none 0 0], .int .i64 2]) (by simp only [results, Try.results12]; go_simp) rfl ⟨rfl, by (repeat' (first | (with_reducible exact Below.refl _ _) | (with_reducible assumption) | (with_reducible refine belowThru ?_ (by assumption)) | (with_reducible refine belowAlloc ?_) | (with_reducible refine Below.setCell ?_ (by first | omega | (simp; done) | (simp; omega)) _) | (with_reducible refine Below.drew ?_) | (with_reducible refine below_drewN ?_ _)))⟩

set_option maxRecDepth 100000 in
set_option maxHeartbeats 16000000 in
theorem tell_none (s p g l c nx : Int) (a : Option Addr) (n cap : Nat) (id vd : Int) (xs : List Sn) (hv : decide (vd < 1) = false) (hv2 : decide (3 < vd) = false) (w : World) (hR : RowK 4 sn1 w a n xs) (HC : Hid (∀ w, RowK 4 sn1 w a n xs → Calls Try.prog 14 #[.agg #[.int .i64 s, .int .i64 p, .int .i64 g, .int .i64 l, .int .i64 c, .int .i64 nx, .slice a n cap]] w fun e w' => e = .returned (.int .i64 0) ∧ Below w.heap.size w w')) (HI : Hid (∀ (W : World) (Bi : Nat), Blk W Bi #[.int .i64 id] 3 → RowK 4 sn1 W a n xs → Calls Try.prog 32 #[.slice a n cap, .func (.func 33) #[] #[.pointer (some ⟨Bi, 0, none⟩)]] W fun e w' => e = .returned (.int .i64 (-1)) ∧ Below W.heap.size W w')) :
    Calls Try.prog 12 #[.agg #[.int .i64 s, .int .i64 p, .int .i64 g, .int .i64 l, .int .i64 c, .int .i64 nx, .slice a n cap], .int .i64 id, .int .u8 vd] w fun e w' => e = .returned (.tuple #[.agg #[.int .i64 0, .int .i64 0, .int .i64 0, .int .i64 0, .int .i64 0, .int .i64 0, .slice none 0 0], .int .i64 6]) ∧ Below w.heap.size w w' := by
  have HR := Lib.hid hR
  clear hR
  go_enter Try.func12, Try.ntmps12
  go_wp2_with fail
  refine (HC.out _ (HR.out.later (by (repeat' (first | (with_reducible exact Below.refl _ _) | (with_reducible assumption) | (with_reducible refine belowThru ?_ (by assumption)) | (with_reducible refine belowAlloc ?_) | (with_reducible refine Below.setCell ?_ (by first | omega | (simp; done) | (simp; omega)) _) | (with_reducible refine Below.drew ?_) | (with_reducible refine below_drewN ?_ _)))))).mono ?_
  rintro e w1 ⟨rfl, hb⟩
  have kT : Blk w1 w.heap.size #[.int .i64 s, .int .i64 p, .int .i64 g, .int .i64 l, .int .i64 c, .int .i64 nx, .slice a n cap] 26 := Blk.later hb (Blk.alloc (Blk.alloc (Blk.new rfl)))
  have kI : Blk w1 (w.heap.size + 1) #[.int .i64 id] 3 := Blk.later hb (Blk.alloc (Blk.new (by simp)))
  have kR : Blk w1 (w.heap.size + 1 + 1) #[.int .i64 0, .int .i64 0, .int .i64 0, .int .i64 0, .int .i64 0, .int .i64 0, .slice none 0 0] 26 := Blk.later hb (Blk.new (by simp))
  have hB : Below w.heap.size w w1 := belowThru (belowAlloc (belowAlloc (belowAlloc (Below.refl _ _)))) hb
  clear hb
  obtain ⟨aT, bT⟩ := kT.read; obtain ⟨aR, bR⟩ := kR.read; have yT := kT.lt; have yR := kR.lt
  go_wp2_with fail
  refine (HI.out _ (w.heap.size + 1) kI (HR.out.later hB)).mono ?_
  rintro e w2 ⟨rfl, hb⟩
  replace kT := Blk.later hb kT; replace kR := Blk.later hb kR; replace hB := belowThru hB hb
  clear aT bT aR bR yT yR kI hb
  obtain ⟨aT, bT⟩ := kT.read; obtain ⟨aR, bR⟩ := kR.read; have yT := kT.lt; have yR := kR.lt
  go_wp2_with fail
  have q2 := (kR.set7 (.int .i64 0) (.int .i64 0) (.int .i64 0) (.int .i64 0) (.int .i64 0) (.int .i64 0) (.slice none 0 0)).cells
  exact bodyPost_ret (v := .tuple #[.agg #[.int .i64 0, .int .i64 0, .int .i64 0, .int .i64 0, .int .i64 0, .int .i64 0, .slice none 0 0], .int .i64 6]) (by simp only [results, Try.results12]; go_simp) rfl ⟨rfl, by (repeat' (first | (with_reducible exact Below.refl _ _) | (with_reducible assumption) | (with_reducible refine belowThru ?_ (by assumption)) | (with_reducible refine belowAlloc ?_) | (with_reducible refine Below.setCell ?_ (by first | omega | (simp; done) | (simp; omega)) _) | (with_reducible refine Below.drew ?_) | (with_reducible refine below_drewN ?_ _)))⟩


set_option maxRecDepth 100000 in
set_option maxHeartbeats 16000000 in
theorem tell_late (s p g l c nx : Int) (a : Option Addr) (n cap : Nat) (id vd : Int) (xs : List Sn) (hv : 1 ≤ vd ∧ vd ≤ 3) (k : Nat) (q1 q2 q3 F L : Int) (q4 : Bool) (hk : k < n) (hx : xs[k]? = some (q1, q2, q3, q4)) (hF : 1 ≤ F ∧ F ≤ 2000001) (hL : 1 ≤ L ∧ L ≤ 2000001) (hq : 0 ≤ q2 ∧ q2 ≤ 1099511627776) (hl : (q3 != 0) = true ∨ (q3 != 0) = false ∧ q2 + F ≤ c) (w : World) (hR : RowK 4 sn1 w a n xs) (HC : Hid (∀ w, RowK 4 sn1 w a n xs → Calls Try.prog 14 #[.agg #[.int .i64 s, .int .i64 p, .int .i64 g, .int .i64 l, .int .i64 c, .int .i64 nx, .slice a n cap]] w fun e w' => e = .returned (.int .i64 0) ∧ Below w.heap.size w w')) (HI : Hid (∀ (W : World) (Bi : Nat), Blk W Bi #[.int .i64 id] 3 → RowK 4 sn1 W a n xs → Calls Try.prog 32 #[.slice a n cap, .func (.func 33) #[] #[.pointer (some ⟨Bi, 0, none⟩)]] W fun e w' => e = .returned (.int .i64 (k : Int)) ∧ Below W.heap.size W w')) (HW : Hid (∀ w, Calls Try.prog 34 #[.agg #[.int .i64 s, .int .i64 p, .int .i64 g, .int .i64 l], .int .i64 g] w fun e w' => e = .returned (.agg #[.int .i64 F, .int .i64 L]) ∧ Below w.heap.size w w')) :
    Calls Try.prog 12 #[.agg #[.int .i64 s, .int .i64 p, .int .i64 g, .int .i64 l, .int .i64 c, .int .i64 nx, .slice a n cap], .int .i64 id, .int .u8 vd] w fun e w' => e = .returned (.tuple #[.agg #[.int .i64 0, .int .i64 0, .int .i64 0, .int .i64 0, .int .i64 0, .int .i64 0, .slice none 0 0], .int .i64 91]) ∧ Below w.heap.size w w' := by
  have hd : decide (vd < 1) = false := decide_eq_false (by omega)
  have hd2 : decide (3 < vd) = false := decide_eq_false (by omega)
  obtain ⟨bb, oo, r1, r2, r3, r4, rfl, hbb, hxk, d0, d1, d2, d3⟩ := hR.seen hk
  obtain ⟨rfl, rfl, rfl, rfl⟩ : r1 = q1 ∧ r2 = q2 ∧ r3 = q3 ∧ r4 = q4 := by rw [hx] at hxk; cases hxk; exact ⟨rfl, rfl, rfl, rfl⟩
  have HF := Lib.hid (after_any F L r2 ⟨by omega, hF.2⟩ ⟨by omega, hL.2⟩ hq)
  have p0 : (0 : Int) ≤ (k : Int) := by omega
  have p1 : (k : Int) < (n : Int) := by omega
  clear hv hx hxk hF hL hq
  have HR := Lib.hid hR
  clear hR
  go_enter Try.func12, Try.ntmps12
  go_wp2_with fail
  refine (HC.out _ (HR.out.later (by (repeat' (first | (with_reducible exact Below.refl _ _) | (with_reducible assumption) | (with_reducible refine belowThru ?_ (by assumption)) | (with_reducible refine belowAlloc ?_) | (with_reducible refine Below.setCell ?_ (by first | omega | (simp; done) | (simp; omega)) _) | (with_reducible refine Below.drew ?_) | (with_reducible refine below_drewN ?_ _)))))).mono ?_
  rintro e w1 ⟨rfl, hb⟩
  have kT : Blk w1 w.heap.size #[.int .i64 s, .int .i64 p, .int .i64 g, .int .i64 l, .int .i64 c, .int .i64 nx, .slice (some ⟨bb, oo, none⟩) n cap] 26 := Blk.later hb (Blk.alloc (Blk.alloc (Blk.new rfl)))
  have kI : Blk w1 (w.heap.size + 1) #[.int .i64 id] 3 := Blk.later hb (Blk.alloc (Blk.new (by simp)))
  have kR : Blk w1 (w.heap.size + 1 + 1) #[.int .i64 0, .int .i64 0, .int .i64 0, .int .i64 0, .int .i64 0, .int .i64 0, .slice none 0 0] 26 := Blk.later hb (Blk.new (by simp))
  have hB : Below w.heap.size w w1 := belowThru (belowAlloc (belowAlloc (belowAlloc (Below.refl _ _)))) hb
  clear hb
  obtain ⟨aT, bT⟩ := kT.read; obtain ⟨aR, bR⟩ := kR.read; have yT := kT.lt; have yR := kR.lt
  go_wp2_with fail
  refine (HI.out _ (w.heap.size + 1) kI (HR.out.later hB)).mono ?_
  rintro e w2 ⟨rfl, hb⟩
  replace kT := Blk.later hb kT; replace kR := Blk.later hb kR; replace hB := belowThru hB hb
  clear aT bT aR bR yT yR kI hb
  obtain ⟨aT, bT⟩ := kT.read; obtain ⟨aR, bR⟩ := kR.read; have yT := kT.lt; have yR := kR.lt
  have d1 := cell_later hB d1
  have d2 := cell_later hB d2
  have yb : bb < w2.heap.size := Nat.lt_of_lt_of_le hbb hB.size
  have HS : Hid (∀ W, Below w2.heap.size w2 W → (Blk W w.heap.size #[.int .i64 s, .int .i64 p, .int .i64 g, .int .i64 l, .int .i64 c, .int .i64 nx, .slice (some ⟨bb, oo, none⟩) n cap] 26 ∧ (∀ i : Nat, W.cell? ⟨w.heap.size, i, none⟩ = (#[.int .i64 s, .int .i64 p, .int .i64 g, .int .i64 l, .int .i64 c, .int .i64 nx, .slice (some ⟨bb, oo, none⟩) n cap] : Array Value)[i]?)) ∧ W.cell? ⟨bb, oo + k * 4 + 1, none⟩ = some (.int .i64 r2) ∧ Below w2.heap.size w2 W) := fun W hW => ⟨(Blk.later hW kT).full, (Below.cell hW yb).trans d1, hW⟩
  go_wp2_with fail
  go_cut [10] (fun s10 wx => ∃ bG : Nat, s10 = .pointer (some ⟨bG, 0, none⟩) ∧ Blk wx bG #[.int .i64 (r2 + F), .int .i64 (r2 + L)] 81 ∧ Below w2.heap.size w2 wx)
  case first =>
    refine wp_region_held_drew (S := fun W => (Blk W w.heap.size #[.int .i64 s, .int .i64 p, .int .i64 g, .int .i64 l, .int .i64 c, .int .i64 nx, .slice (some ⟨bb, oo, none⟩) n cap] 26 ∧ (∀ i : Nat, W.cell? ⟨w.heap.size, i, none⟩ = (#[.int .i64 s, .int .i64 p, .int .i64 g, .int .i64 l, .int .i64 c, .int .i64 nx, .slice (some ⟨bb, oo, none⟩) n cap] : Array Value)[i]?)) ∧ W.cell? ⟨bb, oo + k * 4 + 1, none⟩ = some (.int .i64 r2) ∧ Below w2.heap.size w2 W) (by kernel_rfl) (HS.out _ (Below.refl _ _).drew) (fun hHeld => ?_)
    obtain ⟨Wd, hWd⟩ : ∃ Wd, w2.drew = Wd := ⟨_, rfl⟩
    have hW : Below w2.heap.size w2 Wd := by rw [← hWd]; exact (Below.refl _ _).drew
    rw [hWd] at hHeld ⊢
    clear hWd aT bT aR bR
    refine wpAnyH_take (i := 0) (v := ?_) rfl (by kernel_rfl) (by kernel_rfl) (by kernel_rfl) (fun _ _ _ h => h) (Or.inl ⟨by rfl, ?hT0⟩) (by assumption) ?_
    case hT0 => ((intro w hSw; (try dsimp only at hSw); go_simp); try (with_reducible rfl))
    try simp only [Act.put, List.setIfInBounds_toArray, List.set_cons_zero, List.set_cons_succ]
    refine wpAnyH_take (i := 1) (v := ?_) rfl (by kernel_rfl) (by kernel_rfl) (by kernel_rfl) (fun _ _ _ h => h) (Or.inl ⟨by rfl, ?hT1⟩) (by assumption) ?_
    case hT1 => ((intro w hSw; (try dsimp only at hSw); go_simp); try (with_reducible rfl))
    try simp only [Act.put, List.setIfInBounds_toArray, List.set_cons_zero, List.set_cons_succ]
    refine wpAnyH_take (i := 2) (v := ?_) rfl (by kernel_rfl) (by kernel_rfl) (by kernel_rfl) (fun _ _ _ h => h) (Or.inl ⟨by rfl, ?hT2⟩) (by assumption) ?_
    case hT2 => ((intro w hSw; (try dsimp only at hSw); go_simp); try (with_reducible rfl))
    try simp only [Act.put, List.setIfInBounds_toArray, List.set_cons_zero, List.set_cons_succ]
    refine wpAnyH_take (i := 3) (v := ?_) rfl (by kernel_rfl) (by kernel_rfl) (by kernel_rfl) (fun _ _ _ h => h) (Or.inl ⟨by rfl, ?hT3⟩) (by assumption) ?_
    case hT3 => ((intro w hSw; (try dsimp only at hSw); go_simp); try (with_reducible rfl))
    try simp only [Act.put, List.setIfInBounds_toArray, List.set_cons_zero, List.set_cons_succ]
    refine wpAnyH_take (i := 4) (v := ?_) rfl (by kernel_rfl) (by kernel_rfl) (by kernel_rfl) (fun _ _ _ h => h) (Or.inl ⟨by rfl, ?hT4⟩) (by assumption) ?_
    case hT4 => ((intro w hSw; (try dsimp only at hSw); go_simp); try (with_reducible rfl))
    try simp only [Act.put, List.setIfInBounds_toArray, List.set_cons_zero, List.set_cons_succ]
    refine wpAnyH_take (i := 6) (v := ?_) rfl (by kernel_rfl) (by kernel_rfl) (by kernel_rfl) (fun _ _ _ h => h) (Or.inl ⟨by rfl, ?hT5⟩) (by assumption) ?_
    case hT5 => ((intro w hSw; (try dsimp only at hSw); go_simp); try (with_reducible rfl))
    try simp only [Act.put, List.setIfInBounds_toArray, List.set_cons_zero, List.set_cons_succ]
    refine wpAnyH_take (i := 7) (v := ?_) rfl (by kernel_rfl) (by kernel_rfl) (by kernel_rfl) (fun _ _ _ h => h) (Or.inl ⟨by rfl, ?hT6⟩) (by assumption) ?_
    case hT6 => ((intro w hSw; (try dsimp only at hSw); go_simp); try (with_reducible rfl))
    try simp only [Act.put, List.setIfInBounds_toArray, List.set_cons_zero, List.set_cons_succ]
    refine wpAnyH_take (i := 8) (v := ?_) rfl (by kernel_rfl) (by kernel_rfl) (by kernel_rfl) (fun _ _ _ h => h) (Or.inl ⟨by rfl, ?hT7⟩) (by assumption) ?_
    case hT7 => ((intro w hSw; (try dsimp only at hSw); go_simp); try (with_reducible rfl))
    try simp only [Act.put, List.setIfInBounds_toArray, List.set_cons_zero, List.set_cons_succ]
    refine wpAnyH_take (i := 9) (v := ?_) rfl (by kernel_rfl) (by kernel_rfl) (by kernel_rfl) (fun _ _ _ h => h) (Or.inl ⟨by rfl, ?hT8⟩) (by assumption) ?_
    case hT8 => ((intro w hSw; (try dsimp only at hSw); go_simp); try (with_reducible rfl))
    try simp only [Act.put, List.setIfInBounds_toArray, List.set_cons_zero, List.set_cons_succ]
    refine wpAnyH_take (i := 10) (v := ?_) rfl (by kernel_rfl) (by kernel_rfl) (by kernel_rfl) (fun _ _ _ h => h) (Or.inl ⟨by rfl, ?hT9⟩) (by assumption) ?_
    case hT9 => ((intro w hSw; (try dsimp only at hSw); go_simp); try (with_reducible rfl))
    try simp only [Act.put, List.setIfInBounds_toArray, List.set_cons_zero, List.set_cons_succ]
    refine wpAnyH_take (i := 11) (v := ?_) rfl (by kernel_rfl) (by kernel_rfl) (by kernel_rfl) (fun _ _ _ h => h) (Or.inl ⟨by rfl, ?hT10⟩) (by assumption) ?_
    case hT10 => ((intro w hSw; (try dsimp only at hSw); go_simp); try (with_reducible rfl))
    try simp only [Act.put, List.setIfInBounds_toArray, List.set_cons_zero, List.set_cons_succ]
    refine wpAnyH_ready (rs := [5, 13]) (by kernel_rfl) (by simp) ?_
    refine AllReadyH.cons rfl (fun K hK => ?_) (AllReadyH.cons rfl (fun K hK => ?_) (AllReadyH.nil))
    · go_simp
      refine (HW.out _).mono ?_
      rintro e W5 ⟨rfl, hb⟩
      replace hW := belowThru hW hb
      clear hb
      try go_simp
      refine hK.out _ _ ?_ (fun hHeldN => ?_)
      · (try dsimp only); exact HS.out _ hW
      clear hK K hHeld
      have hHeld := hHeldN
      clear hHeldN
      try simp only [Act.put, List.setIfInBounds_toArray, List.set_cons_zero, List.set_cons_succ]
      refine wpAnyH_ready (rs := [12, 13]) (by kernel_rfl) (by simp) ?_
      refine AllReadyH.cons rfl (fun K hK => ?_) (AllReadyH.cons rfl (fun K hK => ?_) (AllReadyH.nil))
      · go_simp
        refine (HF.out _).mono ?_
        rintro e W12 ⟨rfl, hb⟩
        replace hW := belowThru hW hb
        clear hb
        try go_simp
        refine hK.out _ _ ?_ (fun hHeldN => ?_)
        · (try dsimp only); exact HS.out _ hW
        clear hK K hHeld
        have hHeld := hHeldN
        clear hHeldN
        try simp only [Act.put, List.setIfInBounds_toArray, List.set_cons_zero, List.set_cons_succ]
        refine wpAnyH_ready (rs := [13]) (by kernel_rfl) (by simp) ?_
        refine AllReadyH.cons rfl (fun K hK => ?_) (AllReadyH.nil)
        · have yG := hW.size
          have hWb := hW
          go_simp
          have kg : Blk (W12.alloc (.cells #[.int .i64 0, .int .i64 0] 81)) W12.heap.size #[.int .i64 0, .int .i64 0] 81 := Blk.new rfl
          replace hW : Below w2.heap.size w2 (W12.alloc (.cells #[.int .i64 0, .int .i64 0] 81)) := belowAlloc hW
          refine hK.out _ _ ?_ (fun hHeldN => ?_)
          · (try dsimp only); exact HS.out _ hW
          clear hK K hHeld
          have hHeld := hHeldN
          clear hHeldN
          try simp only [Act.put, List.setIfInBounds_toArray, List.set_cons_zero, List.set_cons_succ]
          refine wpAnyH_ready (rs := [14]) (by kernel_rfl) (by simp) ?_
          refine AllReadyH.cons rfl (fun K hK => ?_) (AllReadyH.nil)
          · obtain ⟨ag, bg⟩ := kg.read; have yg := kg.lt
            go_simp
            replace kg : Blk (W12.alloc (.cells #[.int .i64 (r2 + F), .int .i64 (r2 + L)] 81)) W12.heap.size #[.int .i64 (r2 + F), .int .i64 (r2 + L)] 81 := Blk.new rfl
            replace hW : Below w2.heap.size w2 (W12.alloc (.cells #[.int .i64 (r2 + F), .int .i64 (r2 + L)] 81)) := belowAlloc hWb
            clear ag bg yg hWb
            refine hK.out _ _ ?_ (fun hHeldN => ?_)
            · (try dsimp only); exact HS.out _ hW
            clear hK K hHeld
            have hHeld := hHeldN
            clear hHeldN
            try simp only [Act.put, List.setIfInBounds_toArray, List.set_cons_zero, List.set_cons_succ]
            refine wpAnyH_done (by kernel_rfl) ?_ _
            go_wp2_with fail
            go_meet
            case rel => exact ⟨_, rfl, kg, hW⟩
      · have yG := hW.size
        have hWb := hW
        go_simp
        have kg : Blk (W5.alloc (.cells #[.int .i64 0, .int .i64 0] 81)) W5.heap.size #[.int .i64 0, .int .i64 0] 81 := Blk.new rfl
        replace hW : Below w2.heap.size w2 (W5.alloc (.cells #[.int .i64 0, .int .i64 0] 81)) := belowAlloc hW
        refine hK.out _ _ ?_ (fun hHeldN => ?_)
        · (try dsimp only); exact HS.out _ hW
        clear hK K hHeld
        have hHeld := hHeldN
        clear hHeldN
        try simp only [Act.put, List.setIfInBounds_toArray, List.set_cons_zero, List.set_cons_succ]
        refine wpAnyH_ready (rs := [12]) (by kernel_rfl) (by simp) ?_
        refine AllReadyH.cons rfl (fun K hK => ?_) (AllReadyH.nil)
        · go_simp
          refine (HF.out _).mono ?_
          rintro e W12 ⟨rfl, hb⟩
          replace hW := belowThru hW hb
          replace kg := Blk.later hb kg
          clear hb
          try go_simp
          refine hK.out _ _ ?_ (fun hHeldN => ?_)
          · (try dsimp only); exact HS.out _ hW
          clear hK K hHeld
          have hHeld := hHeldN
          clear hHeldN
          try simp only [Act.put, List.setIfInBounds_toArray, List.set_cons_zero, List.set_cons_succ]
          refine wpAnyH_ready (rs := [14]) (by kernel_rfl) (by simp) ?_
          refine AllReadyH.cons rfl (fun K hK => ?_) (AllReadyH.nil)
          · obtain ⟨ag, bg⟩ := kg.read; have yg := kg.lt
            go_simp
            replace kg := kg.set2 (.int .i64 (r2 + F)) (.int .i64 (r2 + L))
            replace hW : Below w2.heap.size w2 ((W12.setCell ⟨W5.heap.size, 0, none⟩ (.int .i64 (r2 + F))).setCell ⟨W5.heap.size, 1, none⟩ (.int .i64 (r2 + L))) := (hW.setCell yG _).setCell yG _
            clear ag bg yg
            refine hK.out _ _ ?_ (fun hHeldN => ?_)
            · (try dsimp only); exact HS.out _ hW
            clear hK K hHeld
            have hHeld := hHeldN
            clear hHeldN
            try simp only [Act.put, List.setIfInBounds_toArray, List.set_cons_zero, List.set_cons_succ]
            refine wpAnyH_done (by kernel_rfl) ?_ _
            go_wp2_with fail
            go_meet
            case rel => exact ⟨_, rfl, kg, hW⟩
    · have yG := hW.size
      have hWb := hW
      go_simp
      have kg : Blk (Wd.alloc (.cells #[.int .i64 0, .int .i64 0] 81)) Wd.heap.size #[.int .i64 0, .int .i64 0] 81 := Blk.new rfl
      replace hW : Below w2.heap.size w2 (Wd.alloc (.cells #[.int .i64 0, .int .i64 0] 81)) := belowAlloc hW
      refine hK.out _ _ ?_ (fun hHeldN => ?_)
      · (try dsimp only); exact HS.out _ hW
      clear hK K hHeld
      have hHeld := hHeldN
      clear hHeldN
      try simp only [Act.put, List.setIfInBounds_toArray, List.set_cons_zero, List.set_cons_succ]
      refine wpAnyH_ready (rs := [5]) (by kernel_rfl) (by simp) ?_
      refine AllReadyH.cons rfl (fun K hK => ?_) (AllReadyH.nil)
      · go_simp
        refine (HW.out _).mono ?_
        rintro e W5 ⟨rfl, hb⟩
        replace hW := belowThru hW hb
        replace kg := Blk.later hb kg
        clear hb
        try go_simp
        refine hK.out _ _ ?_ (fun hHeldN => ?_)
        · (try dsimp only); exact HS.out _ hW
        clear hK K hHeld
        have hHeld := hHeldN
        clear hHeldN
        try simp only [Act.put, List.setIfInBounds_toArray, List.set_cons_zero, List.set_cons_succ]
        refine wpAnyH_ready (rs := [12]) (by kernel_rfl) (by simp) ?_
        refine AllReadyH.cons rfl (fun K hK => ?_) (AllReadyH.nil)
        · go_simp
          refine (HF.out _).mono ?_
          rintro e W12 ⟨rfl, hb⟩
          replace hW := belowThru hW hb
          replace kg := Blk.later hb kg
          clear hb
          try go_simp
          refine hK.out _ _ ?_ (fun hHeldN => ?_)
          · (try dsimp only); exact HS.out _ hW
          clear hK K hHeld
          have hHeld := hHeldN
          clear hHeldN
          try simp only [Act.put, List.setIfInBounds_toArray, List.set_cons_zero, List.set_cons_succ]
          refine wpAnyH_ready (rs := [14]) (by kernel_rfl) (by simp) ?_
          refine AllReadyH.cons rfl (fun K hK => ?_) (AllReadyH.nil)
          · obtain ⟨ag, bg⟩ := kg.read; have yg := kg.lt
            go_simp
            replace kg := kg.set2 (.int .i64 (r2 + F)) (.int .i64 (r2 + L))
            replace hW : Below w2.heap.size w2 ((W12.setCell ⟨Wd.heap.size, 0, none⟩ (.int .i64 (r2 + F))).setCell ⟨Wd.heap.size, 1, none⟩ (.int .i64 (r2 + L))) := (hW.setCell yG _).setCell yG _
            clear ag bg yg
            refine hK.out _ _ ?_ (fun hHeldN => ?_)
            · (try dsimp only); exact HS.out _ hW
            clear hK K hHeld
            have hHeld := hHeldN
            clear hHeldN
            try simp only [Act.put, List.setIfInBounds_toArray, List.set_cons_zero, List.set_cons_succ]
            refine wpAnyH_done (by kernel_rfl) ?_ _
            go_wp2_with fail
            go_meet
            case rel => exact ⟨_, rfl, kg, hW⟩
  case rest =>
    obtain ⟨bG, rfl, kG, hb⟩ := hcut
    obtain ⟨w3, rfl⟩ : ∃ z, z = wc := ⟨_, rfl⟩
    have d2 := cell_later hb d2
    replace kT := Blk.later hb kT; replace kR := Blk.later hb kR; replace hB := belowThru hB hb
    clear aT bT aR bR yT yR hb d1 HS
    obtain ⟨aT, bT⟩ := kT.read; obtain ⟨aR, bR⟩ := kR.read; have yT := kT.lt; have yR := kR.lt
    obtain ⟨aG, bG2⟩ := kG.read; have yG := kG.lt
    rcases hl with hl | ⟨hl, hl2⟩
    all_goals
      go_wp2_with fail
      have q2 := (kR.set7 (.int .i64 0) (.int .i64 0) (.int .i64 0) (.int .i64 0) (.int .i64 0) (.int .i64 0) (.slice none 0 0)).cells
      exact bodyPost_ret (v := .tuple #[.agg #[.int .i64 0, .int .i64 0, .int .i64 0, .int .i64 0, .int .i64 0, .int .i64 0, .slice none 0 0], .int .i64 91]) (by simp only [results, Try.results12]; go_simp) rfl ⟨rfl, by (repeat' (first | (with_reducible exact Below.refl _ _) | (with_reducible assumption) | (with_reducible refine belowThru ?_ (by assumption)) | (with_reducible refine belowAlloc ?_) | (with_reducible refine Below.setCell ?_ (by first | omega | (simp; done) | (simp; omega)) _) | (with_reducible refine Below.drew ?_) | (with_reducible refine below_drewN ?_ _)))⟩


set_option maxRecDepth 100000 in
set_option maxHeartbeats 16000000 in
theorem tell_yes (s p g l c nx : Int) (a : Option Addr) (n cap : Nat) (id vd : Int) (xs : List Sn) (hv : 1 ≤ vd ∧ vd ≤ 3) (k : Nat) (q1 q2 q3 F L : Int) (q4 : Bool) (hk : k < n) (hx : xs[k]? = some (q1, q2, q3, q4)) (hF : 1 ≤ F ∧ F ≤ 2000001) (hL : 1 ≤ L ∧ L ≤ 2000001) (hq : 0 ≤ q2 ∧ q2 ≤ 1099511627776) (hl : (q3 != 0) = false) (hl2 : c < q2 + F) (hn : n ≤ 32) (w : World) (hR : RowK 4 sn1 w a n xs) (HC : Hid (∀ w, RowK 4 sn1 w a n xs → Calls Try.prog 14 #[.agg #[.int .i64 s, .int .i64 p, .int .i64 g, .int .i64 l, .int .i64 c, .int .i64 nx, .slice a n cap]] w fun e w' => e = .returned (.int .i64 0) ∧ Below w.heap.size w w')) (HI : Hid (∀ (W : World) (Bi : Nat), Blk W Bi #[.int .i64 id] 3 → RowK 4 sn1 W a n xs → Calls Try.prog 32 #[.slice a n cap, .func (.func 33) #[] #[.pointer (some ⟨Bi, 0, none⟩)]] W fun e w' => e = .returned (.int .i64 (k : Int)) ∧ Below W.heap.size W w')) (HW : Hid (∀ w, Calls Try.prog 34 #[.agg #[.int .i64 s, .int .i64 p, .int .i64 g, .int .i64 l], .int .i64 g] w fun e w' => e = .returned (.agg #[.int .i64 F, .int .i64 L]) ∧ Below w.heap.size w w')) :
    Calls Try.prog 12 #[.agg #[.int .i64 s, .int .i64 p, .int .i64 g, .int .i64 l, .int .i64 c, .int .i64 nx, .slice a n cap], .int .i64 id, .int .u8 vd] w fun e w' => (∃ v, e = .returned (.tuple #[.agg #[.int .i64 s, .int .i64 p, .int .i64 g, .int .i64 l, .int .i64 c, .int .i64 nx, v], .int .i64 0]) ∧ OwnK 43 4 sn1 w.heap.size w' v (xs.set k (q1, q2, vd, q4))) ∧ Below w.heap.size w w' := by
  have hl3 : decide (q2 + F ≤ c) = false := decide_eq_false (by omega)
  have HXk := Lib.hid hx
  clear hl2
  have hd : decide (vd < 1) = false := decide_eq_false (by omega)
  have hd2 : decide (3 < vd) = false := decide_eq_false (by omega)
  obtain ⟨bb, oo, r1, r2, r3, r4, rfl, hbb, hxk, d0, d1, d2, d3⟩ := hR.seen hk
  obtain ⟨rfl, rfl, rfl, rfl⟩ : r1 = q1 ∧ r2 = q2 ∧ r3 = q3 ∧ r4 = q4 := by rw [hx] at hxk; cases hxk; exact ⟨rfl, rfl, rfl, rfl⟩
  have HF := Lib.hid (after_any F L r2 ⟨by omega, hF.2⟩ ⟨by omega, hL.2⟩ hq)
  have p0 : (0 : Int) ≤ (k : Int) := by omega
  have p1 : (k : Int) < (n : Int) := by omega
  clear hv hx hxk hF hL hq
  have HXL := Lib.hid hR.1
  have HR := Lib.hid hR
  clear hR
  go_enter Try.func12, Try.ntmps12
  go_wp2_with fail
  refine (HC.out _ (HR.out.later (by (repeat' (first | (with_reducible exact Below.refl _ _) | (with_reducible assumption) | (with_reducible refine belowThru ?_ (by assumption)) | (with_reducible refine belowAlloc ?_) | (with_reducible refine Below.setCell ?_ (by first | omega | (simp; done) | (simp; omega)) _) | (with_reducible refine Below.drew ?_) | (with_reducible refine below_drewN ?_ _)))))).mono ?_
  rintro e w1 ⟨rfl, hb⟩
  have kT : Blk w1 w.heap.size #[.int .i64 s, .int .i64 p, .int .i64 g, .int .i64 l, .int .i64 c, .int .i64 nx, .slice (some ⟨bb, oo, none⟩) n cap] 26 := Blk.later hb (Blk.alloc (Blk.alloc (Blk.new rfl)))
  have kI : Blk w1 (w.heap.size + 1) #[.int .i64 id] 3 := Blk.later hb (Blk.alloc (Blk.new (by simp)))
  have kR : Blk w1 (w.heap.size + 1 + 1) #[.int .i64 0, .int .i64 0, .int .i64 0, .int .i64 0, .int .i64 0, .int .i64 0, .slice none 0 0] 26 := Blk.later hb (Blk.new (by simp))
  have hB : Below w.heap.size w w1 := belowThru (belowAlloc (belowAlloc (belowAlloc (Below.refl _ _)))) hb
  clear hb
  obtain ⟨aT, bT⟩ := kT.read; obtain ⟨aR, bR⟩ := kR.read; have yT := kT.lt; have yR := kR.lt
  go_wp2_with fail
  refine (HI.out _ (w.heap.size + 1) kI (HR.out.later hB)).mono ?_
  rintro e w2 ⟨rfl, hb⟩
  replace kT := Blk.later hb kT; replace kR := Blk.later hb kR; replace hB := belowThru hB hb
  clear aT bT aR bR yT yR kI hb
  obtain ⟨aT, bT⟩ := kT.read; obtain ⟨aR, bR⟩ := kR.read; have yT := kT.lt; have yR := kR.lt
  have d1 := cell_later hB d1
  have d2 := cell_later hB d2
  have yb : bb < w2.heap.size := Nat.lt_of_lt_of_le hbb hB.size
  have HS : Hid (∀ W, Below w2.heap.size w2 W → (Blk W w.heap.size #[.int .i64 s, .int .i64 p, .int .i64 g, .int .i64 l, .int .i64 c, .int .i64 nx, .slice (some ⟨bb, oo, none⟩) n cap] 26 ∧ (∀ i : Nat, W.cell? ⟨w.heap.size, i, none⟩ = (#[.int .i64 s, .int .i64 p, .int .i64 g, .int .i64 l, .int .i64 c, .int .i64 nx, .slice (some ⟨bb, oo, none⟩) n cap] : Array Value)[i]?)) ∧ W.cell? ⟨bb, oo + k * 4 + 1, none⟩ = some (.int .i64 r2) ∧ Below w2.heap.size w2 W) := fun W hW => ⟨(Blk.later hW kT).full, (Below.cell hW yb).trans d1, hW⟩
  go_wp2_with fail
  go_cut [10] (fun s10 wx => ∃ bG : Nat, s10 = .pointer (some ⟨bG, 0, none⟩) ∧ Blk wx bG #[.int .i64 (r2 + F), .int .i64 (r2 + L)] 81 ∧ Below w2.heap.size w2 wx)
  case first =>
    refine wp_region_held_drew (S := fun W => (Blk W w.heap.size #[.int .i64 s, .int .i64 p, .int .i64 g, .int .i64 l, .int .i64 c, .int .i64 nx, .slice (some ⟨bb, oo, none⟩) n cap] 26 ∧ (∀ i : Nat, W.cell? ⟨w.heap.size, i, none⟩ = (#[.int .i64 s, .int .i64 p, .int .i64 g, .int .i64 l, .int .i64 c, .int .i64 nx, .slice (some ⟨bb, oo, none⟩) n cap] : Array Value)[i]?)) ∧ W.cell? ⟨bb, oo + k * 4 + 1, none⟩ = some (.int .i64 r2) ∧ Below w2.heap.size w2 W) (by kernel_rfl) (HS.out _ (Below.refl _ _).drew) (fun hHeld => ?_)
    obtain ⟨Wd, hWd⟩ : ∃ Wd, w2.drew = Wd := ⟨_, rfl⟩
    have hW : Below w2.heap.size w2 Wd := by rw [← hWd]; exact (Below.refl _ _).drew
    rw [hWd] at hHeld ⊢
    clear hWd aT bT aR bR
    refine wpAnyH_take (i := 0) (v := ?_) rfl (by kernel_rfl) (by kernel_rfl) (by kernel_rfl) (fun _ _ _ h => h) (Or.inl ⟨by rfl, ?hT11⟩) (by assumption) ?_
    case hT11 => ((intro w hSw; (try dsimp only at hSw); go_simp); try (with_reducible rfl))
    try simp only [Act.put, List.setIfInBounds_toArray, List.set_cons_zero, List.set_cons_succ]
    refine wpAnyH_take (i := 1) (v := ?_) rfl (by kernel_rfl) (by kernel_rfl) (by kernel_rfl) (fun _ _ _ h => h) (Or.inl ⟨by rfl, ?hT12⟩) (by assumption) ?_
    case hT12 => ((intro w hSw; (try dsimp only at hSw); go_simp); try (with_reducible rfl))
    try simp only [Act.put, List.setIfInBounds_toArray, List.set_cons_zero, List.set_cons_succ]
    refine wpAnyH_take (i := 2) (v := ?_) rfl (by kernel_rfl) (by kernel_rfl) (by kernel_rfl) (fun _ _ _ h => h) (Or.inl ⟨by rfl, ?hT13⟩) (by assumption) ?_
    case hT13 => ((intro w hSw; (try dsimp only at hSw); go_simp); try (with_reducible rfl))
    try simp only [Act.put, List.setIfInBounds_toArray, List.set_cons_zero, List.set_cons_succ]
    refine wpAnyH_take (i := 3) (v := ?_) rfl (by kernel_rfl) (by kernel_rfl) (by kernel_rfl) (fun _ _ _ h => h) (Or.inl ⟨by rfl, ?hT14⟩) (by assumption) ?_
    case hT14 => ((intro w hSw; (try dsimp only at hSw); go_simp); try (with_reducible rfl))
    try simp only [Act.put, List.setIfInBounds_toArray, List.set_cons_zero, List.set_cons_succ]
    refine wpAnyH_take (i := 4) (v := ?_) rfl (by kernel_rfl) (by kernel_rfl) (by kernel_rfl) (fun _ _ _ h => h) (Or.inl ⟨by rfl, ?hT15⟩) (by assumption) ?_
    case hT15 => ((intro w hSw; (try dsimp only at hSw); go_simp); try (with_reducible rfl))
    try simp only [Act.put, List.setIfInBounds_toArray, List.set_cons_zero, List.set_cons_succ]
    refine wpAnyH_take (i := 6) (v := ?_) rfl (by kernel_rfl) (by kernel_rfl) (by kernel_rfl) (fun _ _ _ h => h) (Or.inl ⟨by rfl, ?hT16⟩) (by assumption) ?_
    case hT16 => ((intro w hSw; (try dsimp only at hSw); go_simp); try (with_reducible rfl))
    try simp only [Act.put, List.setIfInBounds_toArray, List.set_cons_zero, List.set_cons_succ]
    refine wpAnyH_take (i := 7) (v := ?_) rfl (by kernel_rfl) (by kernel_rfl) (by kernel_rfl) (fun _ _ _ h => h) (Or.inl ⟨by rfl, ?hT17⟩) (by assumption) ?_
    case hT17 => ((intro w hSw; (try dsimp only at hSw); go_simp); try (with_reducible rfl))
    try simp only [Act.put, List.setIfInBounds_toArray, List.set_cons_zero, List.set_cons_succ]
    refine wpAnyH_take (i := 8) (v := ?_) rfl (by kernel_rfl) (by kernel_rfl) (by kernel_rfl) (fun _ _ _ h => h) (Or.inl ⟨by rfl, ?hT18⟩) (by assumption) ?_
    case hT18 => ((intro w hSw; (try dsimp only at hSw); go_simp); try (with_reducible rfl))
    try simp only [Act.put, List.setIfInBounds_toArray, List.set_cons_zero, List.set_cons_succ]
    refine wpAnyH_take (i := 9) (v := ?_) rfl (by kernel_rfl) (by kernel_rfl) (by kernel_rfl) (fun _ _ _ h => h) (Or.inl ⟨by rfl, ?hT19⟩) (by assumption) ?_
    case hT19 => ((intro w hSw; (try dsimp only at hSw); go_simp); try (with_reducible rfl))
    try simp only [Act.put, List.setIfInBounds_toArray, List.set_cons_zero, List.set_cons_succ]
    refine wpAnyH_take (i := 10) (v := ?_) rfl (by kernel_rfl) (by kernel_rfl) (by kernel_rfl) (fun _ _ _ h => h) (Or.inl ⟨by rfl, ?hT20⟩) (by assumption) ?_
    case hT20 => ((intro w hSw; (try dsimp only at hSw); go_simp); try (with_reducible rfl))
    try simp only [Act.put, List.setIfInBounds_toArray, List.set_cons_zero, List.set_cons_succ]
    refine wpAnyH_take (i := 11) (v := ?_) rfl (by kernel_rfl) (by kernel_rfl) (by kernel_rfl) (fun _ _ _ h => h) (Or.inl ⟨by rfl, ?hT21⟩) (by assumption) ?_
    case hT21 => ((intro w hSw; (try dsimp only at hSw); go_simp); try (with_reducible rfl))
    try simp only [Act.put, List.setIfInBounds_toArray, List.set_cons_zero, List.set_cons_succ]
    refine wpAnyH_ready (rs := [5, 13]) (by kernel_rfl) (by simp) ?_
    refine AllReadyH.cons rfl (fun K hK => ?_) (AllReadyH.cons rfl (fun K hK => ?_) (AllReadyH.nil))
    · go_simp
      refine (HW.out _).mono ?_
      rintro e W5 ⟨rfl, hb⟩
      replace hW := belowThru hW hb
      clear hb
      try go_simp
      refine hK.out _ _ ?_ (fun hHeldN => ?_)
      · (try dsimp only); exact HS.out _ hW
      clear hK K hHeld
      have hHeld := hHeldN
      clear hHeldN
      try simp only [Act.put, List.setIfInBounds_toArray, List.set_cons_zero, List.set_cons_succ]
      refine wpAnyH_ready (rs := [12, 13]) (by kernel_rfl) (by simp) ?_
      refine AllReadyH.cons rfl (fun K hK => ?_) (AllReadyH.cons rfl (fun K hK => ?_) (AllReadyH.nil))
      · go_simp
        refine (HF.out _).mono ?_
        rintro e W12 ⟨rfl, hb⟩
        replace hW := belowThru hW hb
        clear hb
        try go_simp
        refine hK.out _ _ ?_ (fun hHeldN => ?_)
        · (try dsimp only); exact HS.out _ hW
        clear hK K hHeld
        have hHeld := hHeldN
        clear hHeldN
        try simp only [Act.put, List.setIfInBounds_toArray, List.set_cons_zero, List.set_cons_succ]
        refine wpAnyH_ready (rs := [13]) (by kernel_rfl) (by simp) ?_
        refine AllReadyH.cons rfl (fun K hK => ?_) (AllReadyH.nil)
        · have yG := hW.size
          have hWb := hW
          go_simp
          have kg : Blk (W12.alloc (.cells #[.int .i64 0, .int .i64 0] 81)) W12.heap.size #[.int .i64 0, .int .i64 0] 81 := Blk.new rfl
          replace hW : Below w2.heap.size w2 (W12.alloc (.cells #[.int .i64 0, .int .i64 0] 81)) := belowAlloc hW
          refine hK.out _ _ ?_ (fun hHeldN => ?_)
          · (try dsimp only); exact HS.out _ hW
          clear hK K hHeld
          have hHeld := hHeldN
          clear hHeldN
          try simp only [Act.put, List.setIfInBounds_toArray, List.set_cons_zero, List.set_cons_succ]
          refine wpAnyH_ready (rs := [14]) (by kernel_rfl) (by simp) ?_
          refine AllReadyH.cons rfl (fun K hK => ?_) (AllReadyH.nil)
          · obtain ⟨ag, bg⟩ := kg.read; have yg := kg.lt
            go_simp
            replace kg : Blk (W12.alloc (.cells #[.int .i64 (r2 + F), .int .i64 (r2 + L)] 81)) W12.heap.size #[.int .i64 (r2 + F), .int .i64 (r2 + L)] 81 := Blk.new rfl
            replace hW : Below w2.heap.size w2 (W12.alloc (.cells #[.int .i64 (r2 + F), .int .i64 (r2 + L)] 81)) := belowAlloc hWb
            clear ag bg yg hWb
            refine hK.out _ _ ?_ (fun hHeldN => ?_)
            · (try dsimp only); exact HS.out _ hW
            clear hK K hHeld
            have hHeld := hHeldN
            clear hHeldN
            try simp only [Act.put, List.setIfInBounds_toArray, List.set_cons_zero, List.set_cons_succ]
            refine wpAnyH_done (by kernel_rfl) ?_ _
            go_wp2_with fail
            go_meet
            case rel => exact ⟨_, rfl, kg, hW⟩
      · have yG := hW.size
        have hWb := hW
        go_simp
        have kg : Blk (W5.alloc (.cells #[.int .i64 0, .int .i64 0] 81)) W5.heap.size #[.int .i64 0, .int .i64 0] 81 := Blk.new rfl
        replace hW : Below w2.heap.size w2 (W5.alloc (.cells #[.int .i64 0, .int .i64 0] 81)) := belowAlloc hW
        refine hK.out _ _ ?_ (fun hHeldN => ?_)
        · (try dsimp only); exact HS.out _ hW
        clear hK K hHeld
        have hHeld := hHeldN
        clear hHeldN
        try simp only [Act.put, List.setIfInBounds_toArray, List.set_cons_zero, List.set_cons_succ]
        refine wpAnyH_ready (rs := [12]) (by kernel_rfl) (by simp) ?_
        refine AllReadyH.cons rfl (fun K hK => ?_) (AllReadyH.nil)
        · go_simp
          refine (HF.out _).mono ?_
          rintro e W12 ⟨rfl, hb⟩
          replace hW := belowThru hW hb
          replace kg := Blk.later hb kg
          clear hb
          try go_simp
          refine hK.out _ _ ?_ (fun hHeldN => ?_)
          · (try dsimp only); exact HS.out _ hW
          clear hK K hHeld
          have hHeld := hHeldN
          clear hHeldN
          try simp only [Act.put, List.setIfInBounds_toArray, List.set_cons_zero, List.set_cons_succ]
          refine wpAnyH_ready (rs := [14]) (by kernel_rfl) (by simp) ?_
          refine AllReadyH.cons rfl (fun K hK => ?_) (AllReadyH.nil)
          · obtain ⟨ag, bg⟩ := kg.read; have yg := kg.lt
            go_simp
            replace kg := kg.set2 (.int .i64 (r2 + F)) (.int .i64 (r2 + L))
            replace hW : Below w2.heap.size w2 ((W12.setCell ⟨W5.heap.size, 0, none⟩ (.int .i64 (r2 + F))).setCell ⟨W5.heap.size, 1, none⟩ (.int .i64 (r2 + L))) := (hW.setCell yG _).setCell yG _
            clear ag bg yg
            refine hK.out _ _ ?_ (fun hHeldN => ?_)
            · (try dsimp only); exact HS.out _ hW
            clear hK K hHeld
            have hHeld := hHeldN
            clear hHeldN
            try simp only [Act.put, List.setIfInBounds_toArray, List.set_cons_zero, List.set_cons_succ]
            refine wpAnyH_done (by kernel_rfl) ?_ _
            go_wp2_with fail
            go_meet
            case rel => exact ⟨_, rfl, kg, hW⟩
    · have yG := hW.size
      have hWb := hW
      go_simp
      have kg : Blk (Wd.alloc (.cells #[.int .i64 0, .int .i64 0] 81)) Wd.heap.size #[.int .i64 0, .int .i64 0] 81 := Blk.new rfl
      replace hW : Below w2.heap.size w2 (Wd.alloc (.cells #[.int .i64 0, .int .i64 0] 81)) := belowAlloc hW
      refine hK.out _ _ ?_ (fun hHeldN => ?_)
      · (try dsimp only); exact HS.out _ hW
      clear hK K hHeld
      have hHeld := hHeldN
      clear hHeldN
      try simp only [Act.put, List.setIfInBounds_toArray, List.set_cons_zero, List.set_cons_succ]
      refine wpAnyH_ready (rs := [5]) (by kernel_rfl) (by simp) ?_
      refine AllReadyH.cons rfl (fun K hK => ?_) (AllReadyH.nil)
      · go_simp
        refine (HW.out _).mono ?_
        rintro e W5 ⟨rfl, hb⟩
        replace hW := belowThru hW hb
        replace kg := Blk.later hb kg
        clear hb
        try go_simp
        refine hK.out _ _ ?_ (fun hHeldN => ?_)
        · (try dsimp only); exact HS.out _ hW
        clear hK K hHeld
        have hHeld := hHeldN
        clear hHeldN
        try simp only [Act.put, List.setIfInBounds_toArray, List.set_cons_zero, List.set_cons_succ]
        refine wpAnyH_ready (rs := [12]) (by kernel_rfl) (by simp) ?_
        refine AllReadyH.cons rfl (fun K hK => ?_) (AllReadyH.nil)
        · go_simp
          refine (HF.out _).mono ?_
          rintro e W12 ⟨rfl, hb⟩
          replace hW := belowThru hW hb
          replace kg := Blk.later hb kg
          clear hb
          try go_simp
          refine hK.out _ _ ?_ (fun hHeldN => ?_)
          · (try dsimp only); exact HS.out _ hW
          clear hK K hHeld
          have hHeld := hHeldN
          clear hHeldN
          try simp only [Act.put, List.setIfInBounds_toArray, List.set_cons_zero, List.set_cons_succ]
          refine wpAnyH_ready (rs := [14]) (by kernel_rfl) (by simp) ?_
          refine AllReadyH.cons rfl (fun K hK => ?_) (AllReadyH.nil)
          · obtain ⟨ag, bg⟩ := kg.read; have yg := kg.lt
            go_simp
            replace kg := kg.set2 (.int .i64 (r2 + F)) (.int .i64 (r2 + L))
            replace hW : Below w2.heap.size w2 ((W12.setCell ⟨Wd.heap.size, 0, none⟩ (.int .i64 (r2 + F))).setCell ⟨Wd.heap.size, 1, none⟩ (.int .i64 (r2 + L))) := (hW.setCell yG _).setCell yG _
            clear ag bg yg
            refine hK.out _ _ ?_ (fun hHeldN => ?_)
            · (try dsimp only); exact HS.out _ hW
            clear hK K hHeld
            have hHeld := hHeldN
            clear hHeldN
            try simp only [Act.put, List.setIfInBounds_toArray, List.set_cons_zero, List.set_cons_succ]
            refine wpAnyH_done (by kernel_rfl) ?_ _
            go_wp2_with fail
            go_meet
            case rel => exact ⟨_, rfl, kg, hW⟩
  case rest =>
    obtain ⟨bG, rfl, kG, hb⟩ := hcut
    obtain ⟨w3, rfl⟩ : ∃ z, z = wc := ⟨_, rfl⟩
    have d2 := cell_later hb d2
    replace kT := Blk.later hb kT; replace kR := Blk.later hb kR; replace hB := belowThru hB hb
    clear aT bT aR bR yT yR hb d1 HS
    obtain ⟨aT, bT⟩ := kT.read; obtain ⟨aR, bR⟩ := kR.read; have yT := kT.lt; have yR := kR.lt
    obtain ⟨aG, bG2⟩ := kG.read; have yG := kG.lt
    go_wp2_with fail
    clear aT bT aR bR yT yR aG bG2 yG
    refine (cloneS_any (some ⟨bb, oo, none⟩) n cap xs (by omega) _ (HR.out.later hB)).mono ?_
    rintro e w4 ⟨⟨v0, rfl, hV⟩, hb⟩
    replace kT := Blk.later hb kT; replace kR := Blk.later hb kR
    replace hV := OwnK.mono hB.size hV
    replace hB := belowThru hB hb
    clear hb kG
    obtain ⟨gV, capV, rfl, hgB, hgc, hgm, hgl, hfz⟩ := hV.at0 elem_sn (by rw [HXL.out]; omega)
    rw [HXL.out] at hV hgc ⊢
    have hneT : gV ≠ w.heap.size := fun e => hV.ne kT (by decide) (by rw [e]; rfl)
    have hneR := hV.ne kR (by decide)
    have hneR2 : gV ≠ w.heap.size + 1 + 1 := fun e => hneR (by rw [e]; rfl)
    have zz := hV.cellsAt elem_sn HXk.out (i := 2) rfl
    obtain ⟨aT, bT⟩ := kT.read; have yT := kT.lt; obtain ⟨aR, bR⟩ := kR.read; have yR := kR.lt
    have hO1 := Lib.hid ((((hV.other (p := ⟨w.heap.size, 6, none⟩) (u := .slice (some ⟨gV, 0, none⟩) n capV) (hV.ne kT (by decide))).set elem_sn HXL.out HXk.out (i := 2) (u := .int .u8 vd) (y := (r1, r2, vd, r4)) (by decide) rfl)).other7 (b := w.heap.size + 1 + 1) (.int .i64 s) (.int .i64 p) (.int .i64 g) (.int .i64 l) (.int .i64 c) (.int .i64 nx) (.slice (some ⟨gV, 0, none⟩) n capV) hneR)
    have kR2 := ((Blk.other (Blk.other kR (by simp; omega) : Blk (w4.setCell ⟨w.heap.size, 6, none⟩ (.slice (some ⟨gV, 0, none⟩) n capV)) _ _ _) (fun e => hneR2 e.symm) : Blk ((w4.setCell ⟨w.heap.size, 6, none⟩ (.slice (some ⟨gV, 0, none⟩) n capV)).setCell ⟨gV, k * 4 + 2, none⟩ (.int .u8 vd)) _ _ _).set7 (.int .i64 s) (.int .i64 p) (.int .i64 g) (.int .i64 l) (.int .i64 c) (.int .i64 nx) (.slice (some ⟨gV, 0, none⟩) n capV)).cells
    clear hV hneR
    go_wp2_with fail
    exact bodyPost_ret (v := .tuple #[.agg #[.int .i64 s, .int .i64 p, .int .i64 g, .int .i64 l, .int .i64 c, .int .i64 nx, .slice (some ⟨gV, 0, none⟩) n capV], .int .i64 0]) (by simp only [results, Try.results12]; go_simp) rfl ⟨⟨_, rfl, hO1.out⟩, by (repeat' (first | (with_reducible exact Below.refl _ _) | (with_reducible assumption) | (with_reducible refine belowThru ?_ (by assumption)) | (with_reducible refine belowAlloc ?_) | (with_reducible refine Below.setCell ?_ (by first | omega | (simp; done) | (simp; omega)) _) | (with_reducible refine Below.drew ?_) | (with_reducible refine below_drewN ?_ _)))⟩
end Go.Proofs.Ytnkpejinnbiocaa
