/-
  Layer 9: Sense, by the code.
-/
import Derived.Deep.DeepCutAuto
import Derived.Test.YtnkpejinnbiocaaVAdv
namespace Go.Proofs.Ytnkpejinnbiocaa
open Go.RowKit Go.Shelf
set_option linter.unusedVariables false
set_option linter.unusedSimpArgs false

set_option maxRecDepth 100000 in
set_option maxHeartbeats 16000000 in
theorem sense_bad (s p g l c nx : Int) (a : Option Addr) (n cap : Nat) (xs : List Sn) (E : Int) (hE : (E != 0) = true) (w : World) (hR : RowK 4 sn1 w a n xs) (HC : Hid (∀ w, RowK 4 sn1 w a n xs → Calls Try.prog 14 #[.agg #[.int .i64 s, .int .i64 p, .int .i64 g, .int .i64 l, .int .i64 c, .int .i64 nx, .slice a n cap]] w fun e w' => e = .returned (.int .i64 E) ∧ Below w.heap.size w w')) :
    Calls Try.prog 10 #[.agg #[.int .i64 s, .int .i64 p, .int .i64 g, .int .i64 l, .int .i64 c, .int .i64 nx, .slice a n cap]] w fun e w' => e = .returned (.tuple #[.agg #[.int .i64 0, .int .i64 0, .int .i64 0, .int .i64 0, .int .i64 0, .int .i64 0, .slice none 0 0], .int .i64 0, .int .i64 E]) ∧ Below w.heap.size w w' := by
  have HR := Lib.hid hR
  have hx0 := hR.1
  have HX := Lib.hid hx0
  clear hR hx0
  go_enter Try.func10, Try.ntmps10
  go_wp2_with fail
  refine (HC.out _ (HR.out.later (by (repeat' (first | (with_reducible exact Below.refl _ _) | (with_reducible assumption) | (with_reducible refine belowThru ?_ (by assumption)) | (with_reducible refine belowAlloc ?_) | (with_reducible refine Below.setCell ?_ (by first | omega | (simp; done) | (simp; omega)) _) | (with_reducible refine Below.drew ?_) | (with_reducible refine below_drewN ?_ _)))))).mono ?_
  rintro e w1 ⟨rfl, hb⟩
  have kT : Blk w1 w.heap.size #[.int .i64 s, .int .i64 p, .int .i64 g, .int .i64 l, .int .i64 c, .int .i64 nx, .slice a n cap] 26 := Blk.later hb (Blk.alloc (Blk.new rfl))
  have kR : Blk w1 (w.heap.size + 1) #[.int .i64 0, .int .i64 0, .int .i64 0, .int .i64 0, .int .i64 0, .int .i64 0, .slice none 0 0] 26 := Blk.later hb (Blk.new (by simp))
  have hB : Below w.heap.size w w1 := belowThru (belowAlloc (belowAlloc (Below.refl _ _))) hb
  clear hb
  obtain ⟨aT, bT⟩ := kT.read; obtain ⟨aR, bR⟩ := kR.read; have yT := kT.lt; have yR := kR.lt
  go_wp2_with fail
  have q2 := (kR.set7 (.int .i64 0) (.int .i64 0) (.int .i64 0) (.int .i64 0) (.int .i64 0) (.int .i64 0) (.slice none 0 0)).cells
  exact bodyPost_ret (v := .tuple #[.agg #[.int .i64 0, .int .i64 0, .int .i64 0, .int .i64 0, .int .i64 0, .int .i64 0, .slice none 0 0], .int .i64 0, .int .i64 E]) (by simp only [results, Try.results10]; go_simp) rfl ⟨rfl, by (repeat' (first | (with_reducible exact Below.refl _ _) | (with_reducible assumption) | (with_reducible refine belowThru ?_ (by assumption)) | (with_reducible refine belowAlloc ?_) | (with_reducible refine Below.setCell ?_ (by first | omega | (simp; done) | (simp; omega)) _) | (with_reducible refine Below.drew ?_) | (with_reducible refine below_drewN ?_ _)))⟩
set_option maxRecDepth 100000 in
set_option maxHeartbeats 16000000 in
theorem sense_order (s p g l c nx : Int) (a : Option Addr) (n cap : Nat) (xs : List Sn) (hn : 0 < n ∧ n ≤ 32) (hl : ∀ x, xs[n - 1]? = some x → x.2.1 = c) (w : World) (hR : RowK 4 sn1 w a n xs) (HC : Hid (∀ w, RowK 4 sn1 w a n xs → Calls Try.prog 14 #[.agg #[.int .i64 s, .int .i64 p, .int .i64 g, .int .i64 l, .int .i64 c, .int .i64 nx, .slice a n cap]] w fun e w' => e = .returned (.int .i64 0) ∧ Below w.heap.size w w')) :
    Calls Try.prog 10 #[.agg #[.int .i64 s, .int .i64 p, .int .i64 g, .int .i64 l, .int .i64 c, .int .i64 nx, .slice a n cap]] w fun e w' => e = .returned (.tuple #[.agg #[.int .i64 0, .int .i64 0, .int .i64 0, .int .i64 0, .int .i64 0, .int .i64 0, .slice none 0 0], .int .i64 0, .int .i64 91]) ∧ Below w.heap.size w w' := by
  obtain ⟨n1, n2⟩ := hn
  have HR := Lib.hid hR
  have hx0 := hR.1
  have HX := Lib.hid hx0
  clear hR hx0
  go_enter Try.func10, Try.ntmps10
  go_wp2_with fail
  refine (HC.out _ (HR.out.later (by (repeat' (first | (with_reducible exact Below.refl _ _) | (with_reducible assumption) | (with_reducible refine belowThru ?_ (by assumption)) | (with_reducible refine belowAlloc ?_) | (with_reducible refine Below.setCell ?_ (by first | omega | (simp; done) | (simp; omega)) _) | (with_reducible refine Below.drew ?_) | (with_reducible refine below_drewN ?_ _)))))).mono ?_
  rintro e w1 ⟨rfl, hb⟩
  have kT : Blk w1 w.heap.size #[.int .i64 s, .int .i64 p, .int .i64 g, .int .i64 l, .int .i64 c, .int .i64 nx, .slice a n cap] 26 := Blk.later hb (Blk.alloc (Blk.new rfl))
  have kR : Blk w1 (w.heap.size + 1) #[.int .i64 0, .int .i64 0, .int .i64 0, .int .i64 0, .int .i64 0, .int .i64 0, .slice none 0 0] 26 := Blk.later hb (Blk.new (by simp))
  have hB : Below w.heap.size w w1 := belowThru (belowAlloc (belowAlloc (Below.refl _ _))) hb
  clear hb
  obtain ⟨aT, bT⟩ := kT.read; obtain ⟨aR, bR⟩ := kR.read; have yT := kT.lt; have yR := kR.lt
  obtain ⟨q, rfl⟩ : ∃ q, n = q + 1 := ⟨n - 1, by omega⟩
  obtain ⟨bb, oo, q1, q2, q3, q4, rfl, hbb, hxk, d0, d1, d2, d3⟩ := HR.out.seen (j := q) (by omega)
  have d1 := cell_later hB d1
  have vq : IntKind.i64.wrap (((q + 1 : Nat) : Int) - 1) = (q : Int) := (IntWalk.i64_in _ (by omega)).trans (by omega)
  have vq2 : IntKind.i64.wrap ((q : Int) + 1 - 1) = (q : Int) := (IntWalk.i64_in _ (by omega)).trans (by omega)
  have vq3 : ((q : Int) + 1 - 1) = (q : Int) := by omega
  have p0 : (0 : Int) ≤ (q : Int) := by omega
  have p1 : (q : Int) < ((q + 1 : Nat) : Int) := by omega
  have p2 : (q : Int) < (q : Int) + 1 := by omega
  have p3 : decide ((0 : Int) < (q : Int) + 1) = true := decide_eq_true (by omega)
  obtain rfl : q2 = c := hl _ (by simpa using hxk)
  clear hxk hl
  go_wp2_with fail
  go_quiet (fail)
  go_wp2
  have q2 := ((kR.drewN (n := nq)).set7 (.int .i64 0) (.int .i64 0) (.int .i64 0) (.int .i64 0) (.int .i64 0) (.int .i64 0) (.slice none 0 0)).cells
  exact bodyPost_ret (v := .tuple #[.agg #[.int .i64 0, .int .i64 0, .int .i64 0, .int .i64 0, .int .i64 0, .int .i64 0, .slice none 0 0], .int .i64 0, .int .i64 91]) (by simp only [results, Try.results10]; go_simp) rfl ⟨rfl, by (repeat' (first | (with_reducible exact Below.refl _ _) | (with_reducible assumption) | (with_reducible refine belowThru ?_ (by assumption)) | (with_reducible refine belowAlloc ?_) | (with_reducible refine Below.setCell ?_ (by first | omega | (simp; done) | (simp; omega)) _) | (with_reducible refine Below.drew ?_) | (with_reducible refine below_drewN ?_ _)))⟩
set_option maxRecDepth 100000 in
set_option maxHeartbeats 16000000 in
theorem sense_full_z (s p g l c nx : Int) (a : Option Addr) (n cap : Nat) (xs : List Sn) (hn : n = 0) (hf : (nx == 1099511627776) = true) (w : World) (hR : RowK 4 sn1 w a n xs) (HC : Hid (∀ w, RowK 4 sn1 w a n xs → Calls Try.prog 14 #[.agg #[.int .i64 s, .int .i64 p, .int .i64 g, .int .i64 l, .int .i64 c, .int .i64 nx, .slice a n cap]] w fun e w' => e = .returned (.int .i64 0) ∧ Below w.heap.size w w')) :
    Calls Try.prog 10 #[.agg #[.int .i64 s, .int .i64 p, .int .i64 g, .int .i64 l, .int .i64 c, .int .i64 nx, .slice a n cap]] w fun e w' => e = .returned (.tuple #[.agg #[.int .i64 0, .int .i64 0, .int .i64 0, .int .i64 0, .int .i64 0, .int .i64 0, .slice none 0 0], .int .i64 0, .int .i64 9]) ∧ Below w.heap.size w w' := by
  subst hn
  have HR := Lib.hid hR
  have hx0 := hR.1
  have HX := Lib.hid hx0
  clear hR hx0
  go_enter Try.func10, Try.ntmps10
  go_wp2_with fail
  refine (HC.out _ (HR.out.later (by (repeat' (first | (with_reducible exact Below.refl _ _) | (with_reducible assumption) | (with_reducible refine belowThru ?_ (by assumption)) | (with_reducible refine belowAlloc ?_) | (with_reducible refine Below.setCell ?_ (by first | omega | (simp; done) | (simp; omega)) _) | (with_reducible refine Below.drew ?_) | (with_reducible refine below_drewN ?_ _)))))).mono ?_
  rintro e w1 ⟨rfl, hb⟩
  have kT : Blk w1 w.heap.size #[.int .i64 s, .int .i64 p, .int .i64 g, .int .i64 l, .int .i64 c, .int .i64 nx, .slice a 0 cap] 26 := Blk.later hb (Blk.alloc (Blk.new rfl))
  have kR : Blk w1 (w.heap.size + 1) #[.int .i64 0, .int .i64 0, .int .i64 0, .int .i64 0, .int .i64 0, .int .i64 0, .slice none 0 0] 26 := Blk.later hb (Blk.new (by simp))
  have hB : Below w.heap.size w w1 := belowThru (belowAlloc (belowAlloc (Below.refl _ _))) hb
  clear hb
  obtain ⟨aT, bT⟩ := kT.read; obtain ⟨aR, bR⟩ := kR.read; have yT := kT.lt; have yR := kR.lt
  have p3 : decide ((0 : Int) < ((0 : Nat) : Int)) = false := by decide
  go_wp2_with fail
  go_quiet (fail)
  go_wp2
  have q2 := ((kR.drewN (n := nq)).set7 (.int .i64 0) (.int .i64 0) (.int .i64 0) (.int .i64 0) (.int .i64 0) (.int .i64 0) (.slice none 0 0)).cells
  exact bodyPost_ret (v := .tuple #[.agg #[.int .i64 0, .int .i64 0, .int .i64 0, .int .i64 0, .int .i64 0, .int .i64 0, .slice none 0 0], .int .i64 0, .int .i64 9]) (by simp only [results, Try.results10]; go_simp) rfl ⟨rfl, by (repeat' (first | (with_reducible exact Below.refl _ _) | (with_reducible assumption) | (with_reducible refine belowThru ?_ (by assumption)) | (with_reducible refine belowAlloc ?_) | (with_reducible refine Below.setCell ?_ (by first | omega | (simp; done) | (simp; omega)) _) | (with_reducible refine Below.drew ?_) | (with_reducible refine below_drewN ?_ _)))⟩
set_option maxRecDepth 100000 in
set_option maxHeartbeats 16000000 in
theorem sense_full_a (s p g l c nx : Int) (a : Option Addr) (n cap : Nat) (xs : List Sn) (hn : 0 < n ∧ n ≤ 32) (hl : ∀ x, xs[n - 1]? = some x → x.2.1 ≠ c) (hf : n = 32) (w : World) (hR : RowK 4 sn1 w a n xs) (HC : Hid (∀ w, RowK 4 sn1 w a n xs → Calls Try.prog 14 #[.agg #[.int .i64 s, .int .i64 p, .int .i64 g, .int .i64 l, .int .i64 c, .int .i64 nx, .slice a n cap]] w fun e w' => e = .returned (.int .i64 0) ∧ Below w.heap.size w w')) :
    Calls Try.prog 10 #[.agg #[.int .i64 s, .int .i64 p, .int .i64 g, .int .i64 l, .int .i64 c, .int .i64 nx, .slice a n cap]] w fun e w' => e = .returned (.tuple #[.agg #[.int .i64 0, .int .i64 0, .int .i64 0, .int .i64 0, .int .i64 0, .int .i64 0, .slice none 0 0], .int .i64 0, .int .i64 9]) ∧ Below w.heap.size w w' := by
  obtain ⟨n1, n2⟩ := hn
  obtain ⟨q, rfl⟩ : ∃ q, n = q + 1 := ⟨n - 1, by omega⟩
  have hf3 : ((q : Int) + 1 == 32) = true := by simp; omega
  clear hf
  have HR := Lib.hid hR
  have hx0 := hR.1
  have HX := Lib.hid hx0
  clear hR hx0
  go_enter Try.func10, Try.ntmps10
  go_wp2_with fail
  refine (HC.out _ (HR.out.later (by (repeat' (first | (with_reducible exact Below.refl _ _) | (with_reducible assumption) | (with_reducible refine belowThru ?_ (by assumption)) | (with_reducible refine belowAlloc ?_) | (with_reducible refine Below.setCell ?_ (by first | omega | (simp; done) | (simp; omega)) _) | (with_reducible refine Below.drew ?_) | (with_reducible refine below_drewN ?_ _)))))).mono ?_
  rintro e w1 ⟨rfl, hb⟩
  have kT : Blk w1 w.heap.size #[.int .i64 s, .int .i64 p, .int .i64 g, .int .i64 l, .int .i64 c, .int .i64 nx, .slice a (q + 1) cap] 26 := Blk.later hb (Blk.alloc (Blk.new rfl))
  have kR : Blk w1 (w.heap.size + 1) #[.int .i64 0, .int .i64 0, .int .i64 0, .int .i64 0, .int .i64 0, .int .i64 0, .slice none 0 0] 26 := Blk.later hb (Blk.new (by simp))
  have hB : Below w.heap.size w w1 := belowThru (belowAlloc (belowAlloc (Below.refl _ _))) hb
  clear hb
  obtain ⟨aT, bT⟩ := kT.read; obtain ⟨aR, bR⟩ := kR.read; have yT := kT.lt; have yR := kR.lt
  obtain ⟨bb, oo, q1, q2, q3, q4, rfl, hbb, hxk, d0, d1, d2, d3⟩ := HR.out.seen (j := q) (by omega)
  have d1 := cell_later hB d1
  have vq : IntKind.i64.wrap (((q + 1 : Nat) : Int) - 1) = (q : Int) := (IntWalk.i64_in _ (by omega)).trans (by omega)
  have vq2 : IntKind.i64.wrap ((q : Int) + 1 - 1) = (q : Int) := (IntWalk.i64_in _ (by omega)).trans (by omega)
  have vq3 : ((q : Int) + 1 - 1) = (q : Int) := by omega
  have p0 : (0 : Int) ≤ (q : Int) := by omega
  have p1 : (q : Int) < ((q + 1 : Nat) : Int) := by omega
  have p2 : (q : Int) < (q : Int) + 1 := by omega
  have p3 : decide ((0 : Int) < (q : Int) + 1) = true := decide_eq_true (by omega)
  have hd0 : (q2 == c) = false := by have h := hl _ (by simpa using hxk); simpa using h
  clear hxk hl
  go_wp2_with fail
  go_quiet (fail)
  go_wp2
  have q2 := ((kR.drewN (n := nq)).set7 (.int .i64 0) (.int .i64 0) (.int .i64 0) (.int .i64 0) (.int .i64 0) (.int .i64 0) (.slice none 0 0)).cells
  exact bodyPost_ret (v := .tuple #[.agg #[.int .i64 0, .int .i64 0, .int .i64 0, .int .i64 0, .int .i64 0, .int .i64 0, .slice none 0 0], .int .i64 0, .int .i64 9]) (by simp only [results, Try.results10]; go_simp) rfl ⟨rfl, by (repeat' (first | (with_reducible exact Below.refl _ _) | (with_reducible assumption) | (with_reducible refine belowThru ?_ (by assumption)) | (with_reducible refine belowAlloc ?_) | (with_reducible refine Below.setCell ?_ (by first | omega | (simp; done) | (simp; omega)) _) | (with_reducible refine Below.drew ?_) | (with_reducible refine below_drewN ?_ _)))⟩
set_option maxRecDepth 100000 in
set_option maxHeartbeats 16000000 in
theorem sense_full_b (s p g l c nx : Int) (a : Option Addr) (n cap : Nat) (xs : List Sn) (hn : 0 < n ∧ n ≤ 32) (hl : ∀ x, xs[n - 1]? = some x → x.2.1 ≠ c) (hf : n ≠ 32 ∧ (nx == 1099511627776) = true) (w : World) (hR : RowK 4 sn1 w a n xs) (HC : Hid (∀ w, RowK 4 sn1 w a n xs → Calls Try.prog 14 #[.agg #[.int .i64 s, .int .i64 p, .int .i64 g, .int .i64 l, .int .i64 c, .int .i64 nx, .slice a n cap]] w fun e w' => e = .returned (.int .i64 0) ∧ Below w.heap.size w w')) :
    Calls Try.prog 10 #[.agg #[.int .i64 s, .int .i64 p, .int .i64 g, .int .i64 l, .int .i64 c, .int .i64 nx, .slice a n cap]] w fun e w' => e = .returned (.tuple #[.agg #[.int .i64 0, .int .i64 0, .int .i64 0, .int .i64 0, .int .i64 0, .int .i64 0, .slice none 0 0], .int .i64 0, .int .i64 9]) ∧ Below w.heap.size w w' := by
  obtain ⟨n1, n2⟩ := hn
  obtain ⟨hf, hnx⟩ := hf
  obtain ⟨q, rfl⟩ : ∃ q, n = q + 1 := ⟨n - 1, by omega⟩
  have hf3 : ((q : Int) + 1 == 32) = false := by simp; omega
  clear hf
  have HR := Lib.hid hR
  have hx0 := hR.1
  have HX := Lib.hid hx0
  clear hR hx0
  go_enter Try.func10, Try.ntmps10
  go_wp2_with fail
  refine (HC.out _ (HR.out.later (by (repeat' (first | (with_reducible exact Below.refl _ _) | (with_reducible assumption) | (with_reducible refine belowThru ?_ (by assumption)) | (with_reducible refine belowAlloc ?_) | (with_reducible refine Below.setCell ?_ (by first | omega | (simp; done) | (simp; omega)) _) | (with_reducible refine Below.drew ?_) | (with_reducible refine below_drewN ?_ _)))))).mono ?_
  rintro e w1 ⟨rfl, hb⟩
  have kT : Blk w1 w.heap.size #[.int .i64 s, .int .i64 p, .int .i64 g, .int .i64 l, .int .i64 c, .int .i64 nx, .slice a (q + 1) cap] 26 := Blk.later hb (Blk.alloc (Blk.new rfl))
  have kR : Blk w1 (w.heap.size + 1) #[.int .i64 0, .int .i64 0, .int .i64 0, .int .i64 0, .int .i64 0, .int .i64 0, .slice none 0 0] 26 := Blk.later hb (Blk.new (by simp))
  have hB : Below w.heap.size w w1 := belowThru (belowAlloc (belowAlloc (Below.refl _ _))) hb
  clear hb
  obtain ⟨aT, bT⟩ := kT.read; obtain ⟨aR, bR⟩ := kR.read; have yT := kT.lt; have yR := kR.lt
  obtain ⟨bb, oo, q1, q2, q3, q4, rfl, hbb, hxk, d0, d1, d2, d3⟩ := HR.out.seen (j := q) (by omega)
  have d1 := cell_later hB d1
  have vq : IntKind.i64.wrap (((q + 1 : Nat) : Int) - 1) = (q : Int) := (IntWalk.i64_in _ (by omega)).trans (by omega)
  have vq2 : IntKind.i64.wrap ((q : Int) + 1 - 1) = (q : Int) := (IntWalk.i64_in _ (by omega)).trans (by omega)
  have vq3 : ((q : Int) + 1 - 1) = (q : Int) := by omega
  have p0 : (0 : Int) ≤ (q : Int) := by omega
  have p1 : (q : Int) < ((q + 1 : Nat) : Int) := by omega
  have p2 : (q : Int) < (q : Int) + 1 := by omega
  have p3 : decide ((0 : Int) < (q : Int) + 1) = true := decide_eq_true (by omega)
  have hd0 : (q2 == c) = false := by have h := hl _ (by simpa using hxk); simpa using h
  clear hxk hl
  go_wp2_with fail
  go_quiet (fail)
  go_wp2
  have q2 := ((kR.drewN (n := nq)).set7 (.int .i64 0) (.int .i64 0) (.int .i64 0) (.int .i64 0) (.int .i64 0) (.int .i64 0) (.slice none 0 0)).cells
  exact bodyPost_ret (v := .tuple #[.agg #[.int .i64 0, .int .i64 0, .int .i64 0, .int .i64 0, .int .i64 0, .int .i64 0, .slice none 0 0], .int .i64 0, .int .i64 9]) (by simp only [results, Try.results10]; go_simp) rfl ⟨rfl, by (repeat' (first | (with_reducible exact Below.refl _ _) | (with_reducible assumption) | (with_reducible refine belowThru ?_ (by assumption)) | (with_reducible refine belowAlloc ?_) | (with_reducible refine Below.setCell ?_ (by first | omega | (simp; done) | (simp; omega)) _) | (with_reducible refine Below.drew ?_) | (with_reducible refine below_drewN ?_ _)))⟩
set_option maxRecDepth 100000 in
set_option maxHeartbeats 16000000 in
theorem sense_yes_z (s p g l c nx : Int) (a : Option Addr) (n cap : Nat) (xs : List Sn) (hn : n = 0) (hf : (nx == 1099511627776) = false) (hv : 0 ≤ nx ∧ nx < 1099511627776) (hcap : n ≤ cap) (w : World) (hR : RowK 4 sn1 w a n xs) (HC : Hid (∀ w, RowK 4 sn1 w a n xs → Calls Try.prog 14 #[.agg #[.int .i64 s, .int .i64 p, .int .i64 g, .int .i64 l, .int .i64 c, .int .i64 nx, .slice a n cap]] w fun e w' => e = .returned (.int .i64 0) ∧ Below w.heap.size w w')) :
    Calls Try.prog 10 #[.agg #[.int .i64 s, .int .i64 p, .int .i64 g, .int .i64 l, .int .i64 c, .int .i64 nx, .slice a n cap]] w fun e w' => (∃ v, e = .returned (.tuple #[.agg #[.int .i64 s, .int .i64 p, .int .i64 g, .int .i64 l, .int .i64 c, .int .i64 (nx + 1), v], .int .i64 nx, .int .i64 0]) ∧ OwnK 43 4 sn1 w.heap.size w' v (xs ++ [(nx, c, 0, false)])) ∧ Below w.heap.size w w' := by
  subst hn
  have HR := Lib.hid hR
  have hx0 := hR.1
  have HA : Hid (∀ (W : World) ty, Below w.heap.size w W → ∃ r w', (Builtin.append_ #[24, 24] ty #[.slice a 0 0, .slice (some ⟨W.heap.size, 0, none⟩) 1 1]).run Try.prog (W.alloc (.cells #[.int .i64 nx, .int .i64 c, .int .u8 0, .bool false] 43)) = .ok r w' ∧ (∃ a2 c2, r = .slice a2 (0 + 1) c2 ∧ Hid (OwnK 43 4 sn1 w.heap.size w' (.slice a2 (0 + 1) c2) (xs ++ [(nx, c, 0, false)])) ∧ Below W.heap.size W w')) := fun W ty hW => by
    obtain ⟨v', w', h1, h2, h3⟩ := run_append_full elem_sn ty (HR.out.later (belowAlloc hW) : RowK 4 sn1 (W.alloc (.cells #[.int .i64 nx, .int .i64 c, .int .u8 0, .bool false] 43)) a 0 xs) (rowK_one elem_sn (x := (nx, c, 0, false)) (Blk.new rfl)) (by omega) (by omega)
    obtain ⟨a2, c2, e, -⟩ := h2.row elem_sn
    have hl : (xs ++ [(nx, c, (0 : Int), false)]).length = 0 + 1 := by rw [List.length_append, hx0]; rfl
    rw [hl] at e
    subst e
    exact ⟨_, w', h1, a2, c2, rfl, OwnK.mono (by have := hW.size; simp; omega) h2, belowThru (belowAlloc (Below.refl _ _)) h3⟩
  have c0 : (0 : Int) ≤ (cap : Int) := by omega
  have v1 : IntKind.i64.wrap (nx + 1) = nx + 1 := IntWalk.i64_in _ (by omega)
  clear hR hx0 hv
  go_enter Try.func10, Try.ntmps10
  go_wp2_with fail
  refine (HC.out _ (HR.out.later (by (repeat' (first | (with_reducible exact Below.refl _ _) | (with_reducible assumption) | (with_reducible refine belowThru ?_ (by assumption)) | (with_reducible refine belowAlloc ?_) | (with_reducible refine Below.setCell ?_ (by first | omega | (simp; done) | (simp; omega)) _) | (with_reducible refine Below.drew ?_) | (with_reducible refine below_drewN ?_ _)))))).mono ?_
  rintro e w1 ⟨rfl, hb⟩
  have kT : Blk w1 w.heap.size #[.int .i64 s, .int .i64 p, .int .i64 g, .int .i64 l, .int .i64 c, .int .i64 nx, .slice a 0 cap] 26 := Blk.later hb (Blk.alloc (Blk.new rfl))
  have kR : Blk w1 (w.heap.size + 1) #[.int .i64 0, .int .i64 0, .int .i64 0, .int .i64 0, .int .i64 0, .int .i64 0, .slice none 0 0] 26 := Blk.later hb (Blk.new (by simp))
  have hB : Below w.heap.size w w1 := belowThru (belowAlloc (belowAlloc (Below.refl _ _))) hb
  clear hb
  obtain ⟨aT, bT⟩ := kT.read; obtain ⟨aR, bR⟩ := kR.read; have yT := kT.lt; have yR := kR.lt
  have p3 : decide ((0 : Int) < ((0 : Nat) : Int)) = false := by decide
  go_wp2_with fail
  go_quiet (fail)
  obtain ⟨W1, hW1⟩ : ∃ W, w1.drewN nq = W := ⟨_, rfl⟩
  have kT1 : Blk W1 w.heap.size #[.int .i64 s, .int .i64 p, .int .i64 g, .int .i64 l, .int .i64 c, .int .i64 nx, .slice a 0 cap] 26 := by rw [← hW1]; exact kT.drewN
  have kR1 : Blk W1 (w.heap.size + 1) #[.int .i64 0, .int .i64 0, .int .i64 0, .int .i64 0, .int .i64 0, .int .i64 0, .slice none 0 0] 26 := by rw [← hW1]; exact kR.drewN
  have hB1 : Below w.heap.size w W1 := by rw [← hW1]; exact below_drewN hB _
  rw [hW1]
  clear hW1 kT kR aT bT aR bR hB yT yR
  obtain ⟨aT, bT⟩ := kT1.read; have yT := kT1.lt; have yR := kR1.lt
  go_wp2_with fail
  obtain ⟨W0, hW0⟩ : ∃ W, W1.alloc (.cells #[.int .i64 nx, .int .i64 c, .int .u8 0, .bool false] 43) = W := ⟨_, rfl⟩
  have kT0 : Blk W0 w.heap.size #[.int .i64 s, .int .i64 p, .int .i64 g, .int .i64 l, .int .i64 c, .int .i64 nx, .slice a 0 cap] 26 := by rw [← hW0]; exact kT1.alloc
  have kR0 : Blk W0 (w.heap.size + 1) #[.int .i64 0, .int .i64 0, .int .i64 0, .int .i64 0, .int .i64 0, .int .i64 0, .slice none 0 0] 26 := by rw [← hW0]; exact kR1.alloc
  have kP0 : Blk W0 W1.heap.size #[.int .i64 nx, .int .i64 c, .int .u8 0, .bool false] 43 := by rw [← hW0]; exact Blk.new rfl
  have hB0 : Below w.heap.size w W0 := by rw [← hW0]; exact belowAlloc hB1
  rw [hW0]
  clear hW0 kT1 kR1 aT bT hB1
  have yP := kP0.lt
  obtain ⟨aT, bT⟩ := kT0.read; obtain ⟨aR, bR⟩ := kR0.read; obtain ⟨aP, bP⟩ := kP0.read; have yT0 := kT0.lt; have yR0 := kR0.lt
  go_cut [53] (fun s53 wx => ∃ a2 c2, Hid (OwnK 43 4 sn1 w.heap.size wx (.slice a2 (0 + 1) c2) (xs ++ [(nx, c, 0, false)])) ∧ Blk wx w.heap.size #[.int .i64 s, .int .i64 p, .int .i64 g, .int .i64 l, .int .i64 c, .int .i64 nx, .slice a2 (0 + 1) c2] 26 ∧ Blk wx (w.heap.size + 1) #[.int .i64 0, .int .i64 0, .int .i64 0, .int .i64 0, .int .i64 0, .int .i64 0, .slice none 0 0] 26 ∧ Blk wx W1.heap.size #[.int .i64 nx, .int .i64 c, .int .u8 0, .bool false] 43 ∧ Below w.heap.size w wx)
  case first =>
    refine wp_region_held_drew (S := fun w' => True) (by kernel_rfl) trivial (fun hHeld => ?_)
    refine wpAnyH_take (i := 0) (v := ?_) rfl (by kernel_rfl) (by kernel_rfl) (by kernel_rfl) (fun _ _ _ h => h) (Or.inl ⟨by rfl, ?hT0⟩) (by assumption) ?_
    case hT0 => ((intro w hSw; (try dsimp only at hSw); go_simp); try (with_reducible rfl))
    try simp only [Act.put, List.setIfInBounds_toArray, List.set_cons_zero, List.set_cons_succ]
    refine wpAnyH_take (i := 2) (v := ?_) rfl (by kernel_rfl) (by kernel_rfl) (by kernel_rfl) (fun _ _ _ h => h) (Or.inl ⟨by rfl, ?hT1⟩) (by assumption) ?_
    case hT1 => ((intro w hSw; (try dsimp only at hSw); go_simp); try (with_reducible rfl))
    try simp only [Act.put, List.setIfInBounds_toArray, List.set_cons_zero, List.set_cons_succ]
    refine wpAnyH_take (i := 3) (v := ?_) rfl (by kernel_rfl) (by kernel_rfl) (by kernel_rfl) (fun _ _ _ h => h) (Or.inl ⟨by rfl, ?hT2⟩) (by assumption) ?_
    case hT2 => ((intro w hSw; (try dsimp only at hSw); go_simp); try (with_reducible rfl))
    try simp only [Act.put, List.setIfInBounds_toArray, List.set_cons_zero, List.set_cons_succ]
    refine wpAnyH_ready (rs := [1, 5]) (by kernel_rfl) (by simp) ?_
    refine AllReadyH.cons rfl (fun K hK => ?_) (AllReadyH.cons rfl (fun K hK => ?_) AllReadyH.nil)
    · go_simp
      refine hK.out _ _ trivial (fun hHeldN => ?_)
      clear hK K hHeld
      have hHeld := hHeldN
      clear hHeldN
      try simp only [Act.put, List.setIfInBounds_toArray, List.set_cons_zero, List.set_cons_succ]
      refine wpAnyH_take (i := 4) (v := ?_) rfl (by kernel_rfl) (by kernel_rfl) (by kernel_rfl) (fun _ _ _ h => h) (Or.inl ⟨by rfl, ?hT3⟩) (by assumption) ?_
      case hT3 => ((intro w hSw; (try dsimp only at hSw); go_simp); try (with_reducible rfl))
      try simp only [Act.put, List.setIfInBounds_toArray, List.set_cons_zero, List.set_cons_succ]
      refine wpAnyH_ready (rs := [5]) (by kernel_rfl) (by simp) ?_
      refine AllReadyH.cons rfl (fun K hK => ?_) AllReadyH.nil
      go_simp
      refine hK.out _ _ trivial (fun hHeldN => ?_)
      clear hK K hHeld
      have hHeld := hHeldN
      clear hHeldN
      try simp only [Act.put, List.setIfInBounds_toArray, List.set_cons_zero, List.set_cons_succ]
      refine wpAnyH_ready (rs := [6]) (by kernel_rfl) (by simp) ?_
      refine AllReadyH.cons rfl (fun K hK => ?_) AllReadyH.nil
      go_simp
      refine hK.out _ _ trivial (fun hHeldN => ?_)
      clear hK K hHeld
      have hHeld := hHeldN
      clear hHeldN
      try simp only [Act.put, List.setIfInBounds_toArray, List.set_cons_zero, List.set_cons_succ]
      refine wpAnyH_ready (rs := [7]) (by kernel_rfl) (by simp) ?_
      refine AllReadyH.cons rfl (fun K hK => ?_) AllReadyH.nil
      refine wp_append_row (.tmp 49) (.tmp 51) _ _ rfl (.slice a 0 0) (.slice (some ⟨W0.drew.heap.size, 0, none⟩) 1 1) rfl rfl (HA.out _ _ hB0.drew) ?_
      rintro r W2 ⟨a2, c2, rfl, hO, hb⟩
      have kT2 : Blk W2 w.heap.size #[.int .i64 s, .int .i64 p, .int .i64 g, .int .i64 l, .int .i64 c, .int .i64 nx, .slice a 0 cap] 26 := Blk.later hb kT0.drew
      have kR2 : Blk W2 (w.heap.size + 1) #[.int .i64 0, .int .i64 0, .int .i64 0, .int .i64 0, .int .i64 0, .int .i64 0, .slice none 0 0] 26 := Blk.later hb kR0.drew
      have kP2 : Blk W2 W1.heap.size #[.int .i64 nx, .int .i64 c, .int .u8 0, .bool false] 43 := Blk.later hb kP0.drew
      have hB2 : Below w.heap.size w W2 := belowThru hB0.drew hb
      obtain ⟨aT2, bT2⟩ := kT2.read; have yT2 := kT2.lt
      clear hb
      refine hK.out _ _ trivial (fun hHeldN => ?_)
      clear hK K hHeld
      have hHeld := hHeldN
      clear hHeldN
      try simp only [Act.put, List.setIfInBounds_toArray, List.set_cons_zero, List.set_cons_succ]
      refine wpAnyH_take (i := 8) (v := ?_) rfl (by kernel_rfl) (by kernel_rfl) (by kernel_rfl) (fun _ _ _ h => h) (Or.inl ⟨by rfl, ?hT4⟩) (by assumption) ?_
      case hT4 => ((intro w hSw; (try dsimp only at hSw); go_simp); try (with_reducible rfl))
      try simp only [Act.put, List.setIfInBounds_toArray, List.set_cons_zero, List.set_cons_succ]
      refine wpAnyH_ready (rs := [9]) (by kernel_rfl) (by simp) ?_
      refine AllReadyH.cons rfl (fun K hK => ?_) AllReadyH.nil
      go_simp
      refine hK.out _ _ trivial (fun hHeldN => ?_)
      clear hK K hHeld
      have hHeld := hHeldN
      clear hHeldN
      try simp only [Act.put, List.setIfInBounds_toArray, List.set_cons_zero, List.set_cons_succ]
      refine wpAnyH_done (by kernel_rfl) ?_ _
      go_wp2_with fail
      go_meet
      case rel =>
        refine ⟨a2, c2, hO.out.other (hO.out.ne kT2 (by decide)), ?_, Blk.other kR2 (by simp), Blk.other kP2 (by simp; omega), hB2.setCell (Nat.le_refl _) _⟩
        exact (Blk.set (i := 6) (v := .slice a2 (0 + 1) c2) kT2 : Blk _ w.heap.size #[.int .i64 s, .int .i64 p, .int .i64 g, .int .i64 l, .int .i64 c, .int .i64 nx, .slice a2 (0 + 1) c2] 26)
    · go_simp
      refine hK.out _ _ trivial (fun hHeldN => ?_)
      clear hK K hHeld
      have hHeld := hHeldN
      clear hHeldN
      try simp only [Act.put, List.setIfInBounds_toArray, List.set_cons_zero, List.set_cons_succ]
      refine wpAnyH_ready (rs := [1, 6]) (by kernel_rfl) (by simp) ?_
      refine AllReadyH.cons rfl (fun K hK => ?_) (AllReadyH.cons rfl (fun K hK => ?_) AllReadyH.nil)
      · go_simp
        refine hK.out _ _ trivial (fun hHeldN => ?_)
        clear hK K hHeld
        have hHeld := hHeldN
        clear hHeldN
        try simp only [Act.put, List.setIfInBounds_toArray, List.set_cons_zero, List.set_cons_succ]
        refine wpAnyH_take (i := 4) (v := ?_) rfl (by kernel_rfl) (by kernel_rfl) (by kernel_rfl) (fun _ _ _ h => h) (Or.inl ⟨by rfl, ?hT5⟩) (by assumption) ?_
        case hT5 => ((intro w hSw; (try dsimp only at hSw); go_simp); try (with_reducible rfl))
        try simp only [Act.put, List.setIfInBounds_toArray, List.set_cons_zero, List.set_cons_succ]
        refine wpAnyH_ready (rs := [6]) (by kernel_rfl) (by simp) ?_
        refine AllReadyH.cons rfl (fun K hK => ?_) AllReadyH.nil
        go_simp
        refine hK.out _ _ trivial (fun hHeldN => ?_)
        clear hK K hHeld
        have hHeld := hHeldN
        clear hHeldN
        try simp only [Act.put, List.setIfInBounds_toArray, List.set_cons_zero, List.set_cons_succ]
        refine wpAnyH_ready (rs := [7]) (by kernel_rfl) (by simp) ?_
        refine AllReadyH.cons rfl (fun K hK => ?_) AllReadyH.nil
        refine wp_append_row (.tmp 49) (.tmp 51) _ _ rfl (.slice a 0 0) (.slice (some ⟨W0.drew.heap.size, 0, none⟩) 1 1) rfl rfl (HA.out _ _ hB0.drew) ?_
        rintro r W2 ⟨a2, c2, rfl, hO, hb⟩
        have kT2 : Blk W2 w.heap.size #[.int .i64 s, .int .i64 p, .int .i64 g, .int .i64 l, .int .i64 c, .int .i64 nx, .slice a 0 cap] 26 := Blk.later hb kT0.drew
        have kR2 : Blk W2 (w.heap.size + 1) #[.int .i64 0, .int .i64 0, .int .i64 0, .int .i64 0, .int .i64 0, .int .i64 0, .slice none 0 0] 26 := Blk.later hb kR0.drew
        have kP2 : Blk W2 W1.heap.size #[.int .i64 nx, .int .i64 c, .int .u8 0, .bool false] 43 := Blk.later hb kP0.drew
        have hB2 : Below w.heap.size w W2 := belowThru hB0.drew hb
        obtain ⟨aT2, bT2⟩ := kT2.read; have yT2 := kT2.lt
        clear hb
        refine hK.out _ _ trivial (fun hHeldN => ?_)
        clear hK K hHeld
        have hHeld := hHeldN
        clear hHeldN
        try simp only [Act.put, List.setIfInBounds_toArray, List.set_cons_zero, List.set_cons_succ]
        refine wpAnyH_take (i := 8) (v := ?_) rfl (by kernel_rfl) (by kernel_rfl) (by kernel_rfl) (fun _ _ _ h => h) (Or.inl ⟨by rfl, ?hT6⟩) (by assumption) ?_
        case hT6 => ((intro w hSw; (try dsimp only at hSw); go_simp); try (with_reducible rfl))
        try simp only [Act.put, List.setIfInBounds_toArray, List.set_cons_zero, List.set_cons_succ]
        refine wpAnyH_ready (rs := [9]) (by kernel_rfl) (by simp) ?_
        refine AllReadyH.cons rfl (fun K hK => ?_) AllReadyH.nil
        go_simp
        refine hK.out _ _ trivial (fun hHeldN => ?_)
        clear hK K hHeld
        have hHeld := hHeldN
        clear hHeldN
        try simp only [Act.put, List.setIfInBounds_toArray, List.set_cons_zero, List.set_cons_succ]
        refine wpAnyH_done (by kernel_rfl) ?_ _
        go_wp2_with fail
        go_meet
        case rel =>
          refine ⟨a2, c2, hO.out.other (hO.out.ne kT2 (by decide)), ?_, Blk.other kR2 (by simp), Blk.other kP2 (by simp; omega), hB2.setCell (Nat.le_refl _) _⟩
          exact (Blk.set (i := 6) (v := .slice a2 (0 + 1) c2) kT2 : Blk _ w.heap.size #[.int .i64 s, .int .i64 p, .int .i64 g, .int .i64 l, .int .i64 c, .int .i64 nx, .slice a2 (0 + 1) c2] 26)
      · go_simp
        refine hK.out _ _ trivial (fun hHeldN => ?_)
        clear hK K hHeld
        have hHeld := hHeldN
        clear hHeldN
        try simp only [Act.put, List.setIfInBounds_toArray, List.set_cons_zero, List.set_cons_succ]
        refine wpAnyH_ready (rs := [1]) (by kernel_rfl) (by simp) ?_
        refine AllReadyH.cons rfl (fun K hK => ?_) AllReadyH.nil
        go_simp
        refine hK.out _ _ trivial (fun hHeldN => ?_)
        clear hK K hHeld
        have hHeld := hHeldN
        clear hHeldN
        try simp only [Act.put, List.setIfInBounds_toArray, List.set_cons_zero, List.set_cons_succ]
        refine wpAnyH_take (i := 4) (v := ?_) rfl (by kernel_rfl) (by kernel_rfl) (by kernel_rfl) (fun _ _ _ h => h) (Or.inl ⟨by rfl, ?hT7⟩) (by assumption) ?_
        case hT7 => ((intro w hSw; (try dsimp only at hSw); go_simp); try (with_reducible rfl))
        try simp only [Act.put, List.setIfInBounds_toArray, List.set_cons_zero, List.set_cons_succ]
        refine wpAnyH_ready (rs := [7]) (by kernel_rfl) (by simp) ?_
        refine AllReadyH.cons rfl (fun K hK => ?_) AllReadyH.nil
        refine wp_append_row (.tmp 49) (.tmp 51) _ _ rfl (.slice a 0 0) (.slice (some ⟨W0.drew.heap.size, 0, none⟩) 1 1) rfl rfl (HA.out _ _ hB0.drew) ?_
        rintro r W2 ⟨a2, c2, rfl, hO, hb⟩
        have kT2 : Blk W2 w.heap.size #[.int .i64 s, .int .i64 p, .int .i64 g, .int .i64 l, .int .i64 c, .int .i64 nx, .slice a 0 cap] 26 := Blk.later hb kT0.drew
        have kR2 : Blk W2 (w.heap.size + 1) #[.int .i64 0, .int .i64 0, .int .i64 0, .int .i64 0, .int .i64 0, .int .i64 0, .slice none 0 0] 26 := Blk.later hb kR0.drew
        have kP2 : Blk W2 W1.heap.size #[.int .i64 nx, .int .i64 c, .int .u8 0, .bool false] 43 := Blk.later hb kP0.drew
        have hB2 : Below w.heap.size w W2 := belowThru hB0.drew hb
        obtain ⟨aT2, bT2⟩ := kT2.read; have yT2 := kT2.lt
        clear hb
        refine hK.out _ _ trivial (fun hHeldN => ?_)
        clear hK K hHeld
        have hHeld := hHeldN
        clear hHeldN
        try simp only [Act.put, List.setIfInBounds_toArray, List.set_cons_zero, List.set_cons_succ]
        refine wpAnyH_take (i := 8) (v := ?_) rfl (by kernel_rfl) (by kernel_rfl) (by kernel_rfl) (fun _ _ _ h => h) (Or.inl ⟨by rfl, ?hT8⟩) (by assumption) ?_
        case hT8 => ((intro w hSw; (try dsimp only at hSw); go_simp); try (with_reducible rfl))
        try simp only [Act.put, List.setIfInBounds_toArray, List.set_cons_zero, List.set_cons_succ]
        refine wpAnyH_ready (rs := [9]) (by kernel_rfl) (by simp) ?_
        refine AllReadyH.cons rfl (fun K hK => ?_) AllReadyH.nil
        go_simp
        refine hK.out _ _ trivial (fun hHeldN => ?_)
        clear hK K hHeld
        have hHeld := hHeldN
        clear hHeldN
        try simp only [Act.put, List.setIfInBounds_toArray, List.set_cons_zero, List.set_cons_succ]
        refine wpAnyH_done (by kernel_rfl) ?_ _
        go_wp2_with fail
        go_meet
        case rel =>
          refine ⟨a2, c2, hO.out.other (hO.out.ne kT2 (by decide)), ?_, Blk.other kR2 (by simp), Blk.other kP2 (by simp; omega), hB2.setCell (Nat.le_refl _) _⟩
          exact (Blk.set (i := 6) (v := .slice a2 (0 + 1) c2) kT2 : Blk _ w.heap.size #[.int .i64 s, .int .i64 p, .int .i64 g, .int .i64 l, .int .i64 c, .int .i64 nx, .slice a2 (0 + 1) c2] 26)
  case rest =>
    clear aT bT aR bR aP bP kT0 kR0 kP0 hB0 HA yP
    obtain ⟨a2, c2, hO, kT2, kR2, kP2, hB2⟩ := hcut
    obtain ⟨W2, rfl⟩ : ∃ z, z = wc := ⟨_, rfl⟩
    obtain ⟨aT2, bT2⟩ := kT2.read; have yT2 := kT2.lt
    go_wp2_with fail
    obtain ⟨W3, hW3⟩ : ∃ W, W2.setCell ⟨w.heap.size, 5, none⟩ (.int .i64 (nx + 1)) = W := ⟨_, rfl⟩
    have kT3 : Blk W3 w.heap.size #[.int .i64 s, .int .i64 p, .int .i64 g, .int .i64 l, .int .i64 c, .int .i64 (nx + 1), .slice a2 (0 + 1) c2] 26 := by rw [← hW3]; exact Blk.set (i := 5) (v := .int .i64 (nx + 1)) kT2
    have kR3 : Blk W3 (w.heap.size + 1) #[.int .i64 0, .int .i64 0, .int .i64 0, .int .i64 0, .int .i64 0, .int .i64 0, .slice none 0 0] 26 := by rw [← hW3]; exact Blk.other kR2 (by simp)
    have kP3 : Blk W3 W1.heap.size #[.int .i64 nx, .int .i64 c, .int .u8 0, .bool false] 43 := by rw [← hW3]; exact Blk.other kP2 (by simp; omega)
    have hO3 : OwnK 43 4 sn1 w.heap.size W3 (.slice a2 (0 + 1) c2) (xs ++ [(nx, c, 0, false)]) := by rw [← hW3]; exact hO.out.other (hO.out.ne kT2 (by decide))
    have hB3 : Below w.heap.size w W3 := by rw [← hW3]; exact hB2.setCell (Nat.le_refl _) _
    have hnR := hO3.ne kR3 (by decide)
    have hO4 := Lib.hid (hO3.other7 (b := w.heap.size + 1) (.int .i64 s) (.int .i64 p) (.int .i64 g) (.int .i64 l) (.int .i64 c) (.int .i64 (nx + 1)) (.slice a2 (0 + 1) c2) hnR)
    have kR4 := kR3.set7 (.int .i64 s) (.int .i64 p) (.int .i64 g) (.int .i64 l) (.int .i64 c) (.int .i64 (nx + 1)) (.slice a2 (0 + 1) c2)
    rw [hW3]
    clear hW3 kT2 kR2 kP2 hB2 aT2 bT2 hO hO3 hnR
    obtain ⟨aT3, bT3⟩ := kT3.read; have yT3 := kT3.lt
    obtain ⟨aR3, bR3⟩ := kR3.read; have yR3 := kR3.lt
    obtain ⟨aP3, bP3⟩ := kP3.read; have yP3 := kP3.lt
    go_region
    all_goals go_wp2_with fail
    all_goals have q2 := kR4.drew.cells
    all_goals exact bodyPost_ret (v := .tuple #[.agg #[.int .i64 s, .int .i64 p, .int .i64 g, .int .i64 l, .int .i64 c, .int .i64 (nx + 1), .slice a2 (0 + 1) c2], .int .i64 nx, .int .i64 0]) (by simp only [results, Try.results10]; go_simp) rfl ⟨⟨_, rfl, hO4.out.drew⟩, by (repeat' (first | (with_reducible exact Below.refl _ _) | (with_reducible assumption) | (with_reducible refine belowThru ?_ (by assumption)) | (with_reducible refine belowAlloc ?_) | (with_reducible refine Below.setCell ?_ (by first | omega | (simp; done) | (simp; omega)) _) | (with_reducible refine Below.drew ?_) | (with_reducible refine below_drewN ?_ _)))⟩
set_option maxRecDepth 100000 in
set_option maxHeartbeats 16000000 in
theorem sense_yes_a (s p g l c nx : Int) (a : Option Addr) (n cap : Nat) (xs : List Sn) (hn : 0 < n ∧ n < 32) (hl : ∀ x, xs[n - 1]? = some x → x.2.1 ≠ c) (hf : (nx == 1099511627776) = false) (hv : 0 ≤ nx ∧ nx < 1099511627776) (hcap : n ≤ cap) (w : World) (hR : RowK 4 sn1 w a n xs) (HC : Hid (∀ w, RowK 4 sn1 w a n xs → Calls Try.prog 14 #[.agg #[.int .i64 s, .int .i64 p, .int .i64 g, .int .i64 l, .int .i64 c, .int .i64 nx, .slice a n cap]] w fun e w' => e = .returned (.int .i64 0) ∧ Below w.heap.size w w')) :
    Calls Try.prog 10 #[.agg #[.int .i64 s, .int .i64 p, .int .i64 g, .int .i64 l, .int .i64 c, .int .i64 nx, .slice a n cap]] w fun e w' => (∃ v, e = .returned (.tuple #[.agg #[.int .i64 s, .int .i64 p, .int .i64 g, .int .i64 l, .int .i64 c, .int .i64 (nx + 1), v], .int .i64 nx, .int .i64 0]) ∧ OwnK 43 4 sn1 w.heap.size w' v (xs ++ [(nx, c, 0, false)])) ∧ Below w.heap.size w w' := by
  obtain ⟨n1, n2⟩ := hn
  obtain ⟨q, rfl⟩ : ∃ q, n = q + 1 := ⟨n - 1, by omega⟩
  have hf3 : ((q : Int) + 1 == 32) = false := by simp; omega
  have HR := Lib.hid hR
  have hx0 := hR.1
  have HA : Hid (∀ (W : World) ty, Below w.heap.size w W → ∃ r w', (Builtin.append_ #[24, 24] ty #[.slice a (q + 1) (q + 1), .slice (some ⟨W.heap.size, 0, none⟩) 1 1]).run Try.prog (W.alloc (.cells #[.int .i64 nx, .int .i64 c, .int .u8 0, .bool false] 43)) = .ok r w' ∧ (∃ a2 c2, r = .slice a2 ((q + 1) + 1) c2 ∧ Hid (OwnK 43 4 sn1 w.heap.size w' (.slice a2 ((q + 1) + 1) c2) (xs ++ [(nx, c, 0, false)])) ∧ Below W.heap.size W w')) := fun W ty hW => by
    obtain ⟨v', w', h1, h2, h3⟩ := run_append_full elem_sn ty (HR.out.later (belowAlloc hW) : RowK 4 sn1 (W.alloc (.cells #[.int .i64 nx, .int .i64 c, .int .u8 0, .bool false] 43)) a (q + 1) xs) (rowK_one elem_sn (x := (nx, c, 0, false)) (Blk.new rfl)) (by omega) (by omega)
    obtain ⟨a2, c2, e, -⟩ := h2.row elem_sn
    have hl : (xs ++ [(nx, c, (0 : Int), false)]).length = (q + 1) + 1 := by rw [List.length_append, hx0]; rfl
    rw [hl] at e
    subst e
    exact ⟨_, w', h1, a2, c2, rfl, OwnK.mono (by have := hW.size; simp; omega) h2, belowThru (belowAlloc (Below.refl _ _)) h3⟩
  have c0 : (0 : Int) ≤ (cap : Int) := by omega
  have cq : (q : Int) + 1 ≤ (cap : Int) := by omega
  have cq2 : (0 : Int) ≤ (q : Int) + 1 := by omega
  have v1 : IntKind.i64.wrap (nx + 1) = nx + 1 := IntWalk.i64_in _ (by omega)
  clear hR hx0 hv
  go_enter Try.func10, Try.ntmps10
  go_wp2_with fail
  refine (HC.out _ (HR.out.later (by (repeat' (first | (with_reducible exact Below.refl _ _) | (with_reducible assumption) | (with_reducible refine belowThru ?_ (by assumption)) | (with_reducible refine belowAlloc ?_) | (with_reducible refine Below.setCell ?_ (by first | omega | (simp; done) | (simp; omega)) _) | (with_reducible refine Below.drew ?_) | (with_reducible refine below_drewN ?_ _)))))).mono ?_
  rintro e w1 ⟨rfl, hb⟩
  have kT : Blk w1 w.heap.size #[.int .i64 s, .int .i64 p, .int .i64 g, .int .i64 l, .int .i64 c, .int .i64 nx, .slice a (q + 1) cap] 26 := Blk.later hb (Blk.alloc (Blk.new rfl))
  have kR : Blk w1 (w.heap.size + 1) #[.int .i64 0, .int .i64 0, .int .i64 0, .int .i64 0, .int .i64 0, .int .i64 0, .slice none 0 0] 26 := Blk.later hb (Blk.new (by simp))
  have hB : Below w.heap.size w w1 := belowThru (belowAlloc (belowAlloc (Below.refl _ _))) hb
  clear hb
  obtain ⟨aT, bT⟩ := kT.read; obtain ⟨aR, bR⟩ := kR.read; have yT := kT.lt; have yR := kR.lt
  obtain ⟨bb, oo, q1, q2, q3, q4, rfl, hbb, hxk, d0, d1, d2, d3⟩ := HR.out.seen (j := q) (by omega)
  have d1 := cell_later hB d1
  have vq : IntKind.i64.wrap (((q + 1 : Nat) : Int) - 1) = (q : Int) := (IntWalk.i64_in _ (by omega)).trans (by omega)
  have vq2 : IntKind.i64.wrap ((q : Int) + 1 - 1) = (q : Int) := (IntWalk.i64_in _ (by omega)).trans (by omega)
  have vq3 : ((q : Int) + 1 - 1) = (q : Int) := by omega
  have p0 : (0 : Int) ≤ (q : Int) := by omega
  have p1 : (q : Int) < ((q + 1 : Nat) : Int) := by omega
  have p2 : (q : Int) < (q : Int) + 1 := by omega
  have p3 : decide ((0 : Int) < (q : Int) + 1) = true := decide_eq_true (by omega)
  have hd0 : (q2 == c) = false := by have h := hl _ (by simpa using hxk); simpa using h
  clear hxk hl
  go_wp2_with fail
  go_quiet (fail)
  obtain ⟨W1, hW1⟩ : ∃ W, w1.drewN nq = W := ⟨_, rfl⟩
  have kT1 : Blk W1 w.heap.size #[.int .i64 s, .int .i64 p, .int .i64 g, .int .i64 l, .int .i64 c, .int .i64 nx, .slice (some ⟨bb, oo, none⟩) (q + 1) cap] 26 := by rw [← hW1]; exact kT.drewN
  have kR1 : Blk W1 (w.heap.size + 1) #[.int .i64 0, .int .i64 0, .int .i64 0, .int .i64 0, .int .i64 0, .int .i64 0, .slice none 0 0] 26 := by rw [← hW1]; exact kR.drewN
  have hB1 : Below w.heap.size w W1 := by rw [← hW1]; exact below_drewN hB _
  rw [hW1]
  clear hW1 kT kR aT bT aR bR hB yT yR
  obtain ⟨aT, bT⟩ := kT1.read; have yT := kT1.lt; have yR := kR1.lt
  go_wp2_with fail
  obtain ⟨W0, hW0⟩ : ∃ W, W1.alloc (.cells #[.int .i64 nx, .int .i64 c, .int .u8 0, .bool false] 43) = W := ⟨_, rfl⟩
  have kT0 : Blk W0 w.heap.size #[.int .i64 s, .int .i64 p, .int .i64 g, .int .i64 l, .int .i64 c, .int .i64 nx, .slice (some ⟨bb, oo, none⟩) (q + 1) cap] 26 := by rw [← hW0]; exact kT1.alloc
  have kR0 : Blk W0 (w.heap.size + 1) #[.int .i64 0, .int .i64 0, .int .i64 0, .int .i64 0, .int .i64 0, .int .i64 0, .slice none 0 0] 26 := by rw [← hW0]; exact kR1.alloc
  have kP0 : Blk W0 W1.heap.size #[.int .i64 nx, .int .i64 c, .int .u8 0, .bool false] 43 := by rw [← hW0]; exact Blk.new rfl
  have hB0 : Below w.heap.size w W0 := by rw [← hW0]; exact belowAlloc hB1
  rw [hW0]
  clear hW0 kT1 kR1 aT bT hB1
  have yP := kP0.lt
  obtain ⟨aT, bT⟩ := kT0.read; obtain ⟨aR, bR⟩ := kR0.read; obtain ⟨aP, bP⟩ := kP0.read; have yT0 := kT0.lt; have yR0 := kR0.lt
  go_cut [53] (fun s53 wx => ∃ a2 c2, Hid (OwnK 43 4 sn1 w.heap.size wx (.slice a2 ((q + 1) + 1) c2) (xs ++ [(nx, c, 0, false)])) ∧ Blk wx w.heap.size #[.int .i64 s, .int .i64 p, .int .i64 g, .int .i64 l, .int .i64 c, .int .i64 nx, .slice a2 ((q + 1) + 1) c2] 26 ∧ Blk wx (w.heap.size + 1) #[.int .i64 0, .int .i64 0, .int .i64 0, .int .i64 0, .int .i64 0, .int .i64 0, .slice none 0 0] 26 ∧ Blk wx W1.heap.size #[.int .i64 nx, .int .i64 c, .int .u8 0, .bool false] 43 ∧ Below w.heap.size w wx)
  case first =>
    refine wp_region_held_drew (S := fun w' => True) (by kernel_rfl) trivial (fun hHeld => ?_)
    refine wpAnyH_take (i := 0) (v := ?_) rfl (by kernel_rfl) (by kernel_rfl) (by kernel_rfl) (fun _ _ _ h => h) (Or.inl ⟨by rfl, ?hT9⟩) (by assumption) ?_
    case hT9 => ((intro w hSw; (try dsimp only at hSw); go_simp); try (with_reducible rfl))
    try simp only [Act.put, List.setIfInBounds_toArray, List.set_cons_zero, List.set_cons_succ]
    refine wpAnyH_take (i := 2) (v := ?_) rfl (by kernel_rfl) (by kernel_rfl) (by kernel_rfl) (fun _ _ _ h => h) (Or.inl ⟨by rfl, ?hT10⟩) (by assumption) ?_
    case hT10 => ((intro w hSw; (try dsimp only at hSw); go_simp); try (with_reducible rfl))
    try simp only [Act.put, List.setIfInBounds_toArray, List.set_cons_zero, List.set_cons_succ]
    refine wpAnyH_take (i := 3) (v := ?_) rfl (by kernel_rfl) (by kernel_rfl) (by kernel_rfl) (fun _ _ _ h => h) (Or.inl ⟨by rfl, ?hT11⟩) (by assumption) ?_
    case hT11 => ((intro w hSw; (try dsimp only at hSw); go_simp); try (with_reducible rfl))
    try simp only [Act.put, List.setIfInBounds_toArray, List.set_cons_zero, List.set_cons_succ]
    refine wpAnyH_ready (rs := [1, 5]) (by kernel_rfl) (by simp) ?_
    refine AllReadyH.cons rfl (fun K hK => ?_) (AllReadyH.cons rfl (fun K hK => ?_) AllReadyH.nil)
    · go_simp
      refine hK.out _ _ trivial (fun hHeldN => ?_)
      clear hK K hHeld
      have hHeld := hHeldN
      clear hHeldN
      try simp only [Act.put, List.setIfInBounds_toArray, List.set_cons_zero, List.set_cons_succ]
      refine wpAnyH_take (i := 4) (v := ?_) rfl (by kernel_rfl) (by kernel_rfl) (by kernel_rfl) (fun _ _ _ h => h) (Or.inl ⟨by rfl, ?hT12⟩) (by assumption) ?_
      case hT12 => ((intro w hSw; (try dsimp only at hSw); go_simp); try (with_reducible rfl))
      try simp only [Act.put, List.setIfInBounds_toArray, List.set_cons_zero, List.set_cons_succ]
      refine wpAnyH_ready (rs := [5]) (by kernel_rfl) (by simp) ?_
      refine AllReadyH.cons rfl (fun K hK => ?_) AllReadyH.nil
      go_simp
      refine hK.out _ _ trivial (fun hHeldN => ?_)
      clear hK K hHeld
      have hHeld := hHeldN
      clear hHeldN
      try simp only [Act.put, List.setIfInBounds_toArray, List.set_cons_zero, List.set_cons_succ]
      refine wpAnyH_ready (rs := [6]) (by kernel_rfl) (by simp) ?_
      refine AllReadyH.cons rfl (fun K hK => ?_) AllReadyH.nil
      go_simp
      refine hK.out _ _ trivial (fun hHeldN => ?_)
      clear hK K hHeld
      have hHeld := hHeldN
      clear hHeldN
      try simp only [Act.put, List.setIfInBounds_toArray, List.set_cons_zero, List.set_cons_succ]
      refine wpAnyH_ready (rs := [7]) (by kernel_rfl) (by simp) ?_
      refine AllReadyH.cons rfl (fun K hK => ?_) AllReadyH.nil
      refine wp_append_row (.tmp 49) (.tmp 51) _ _ rfl (.slice (some ⟨bb, oo, none⟩) (q + 1) (q + 1)) (.slice (some ⟨W0.drew.heap.size, 0, none⟩) 1 1) rfl rfl (HA.out _ _ hB0.drew) ?_
      rintro r W2 ⟨a2, c2, rfl, hO, hb⟩
      have kT2 : Blk W2 w.heap.size #[.int .i64 s, .int .i64 p, .int .i64 g, .int .i64 l, .int .i64 c, .int .i64 nx, .slice (some ⟨bb, oo, none⟩) (q + 1) cap] 26 := Blk.later hb kT0.drew
      have kR2 : Blk W2 (w.heap.size + 1) #[.int .i64 0, .int .i64 0, .int .i64 0, .int .i64 0, .int .i64 0, .int .i64 0, .slice none 0 0] 26 := Blk.later hb kR0.drew
      have kP2 : Blk W2 W1.heap.size #[.int .i64 nx, .int .i64 c, .int .u8 0, .bool false] 43 := Blk.later hb kP0.drew
      have hB2 : Below w.heap.size w W2 := belowThru hB0.drew hb
      obtain ⟨aT2, bT2⟩ := kT2.read; have yT2 := kT2.lt
      clear hb
      refine hK.out _ _ trivial (fun hHeldN => ?_)
      clear hK K hHeld
      have hHeld := hHeldN
      clear hHeldN
      try simp only [Act.put, List.setIfInBounds_toArray, List.set_cons_zero, List.set_cons_succ]
      refine wpAnyH_take (i := 8) (v := ?_) rfl (by kernel_rfl) (by kernel_rfl) (by kernel_rfl) (fun _ _ _ h => h) (Or.inl ⟨by rfl, ?hT13⟩) (by assumption) ?_
      case hT13 => ((intro w hSw; (try dsimp only at hSw); go_simp); try (with_reducible rfl))
      try simp only [Act.put, List.setIfInBounds_toArray, List.set_cons_zero, List.set_cons_succ]
      refine wpAnyH_ready (rs := [9]) (by kernel_rfl) (by simp) ?_
      refine AllReadyH.cons rfl (fun K hK => ?_) AllReadyH.nil
      go_simp
      refine hK.out _ _ trivial (fun hHeldN => ?_)
      clear hK K hHeld
      have hHeld := hHeldN
      clear hHeldN
      try simp only [Act.put, List.setIfInBounds_toArray, List.set_cons_zero, List.set_cons_succ]
      refine wpAnyH_done (by kernel_rfl) ?_ _
      go_wp2_with fail
      go_meet
      case rel =>
        refine ⟨a2, c2, hO.out.other (hO.out.ne kT2 (by decide)), ?_, Blk.other kR2 (by simp), Blk.other kP2 (by simp; omega), hB2.setCell (Nat.le_refl _) _⟩
        exact (Blk.set (i := 6) (v := .slice a2 ((q + 1) + 1) c2) kT2 : Blk _ w.heap.size #[.int .i64 s, .int .i64 p, .int .i64 g, .int .i64 l, .int .i64 c, .int .i64 nx, .slice a2 ((q + 1) + 1) c2] 26)
    · go_simp
      refine hK.out _ _ trivial (fun hHeldN => ?_)
      clear hK K hHeld
      have hHeld := hHeldN
      clear hHeldN
      try simp only [Act.put, List.setIfInBounds_toArray, List.set_cons_zero, List.set_cons_succ]
      refine wpAnyH_ready (rs := [1, 6]) (by kernel_rfl) (by simp) ?_
      refine AllReadyH.cons rfl (fun K hK => ?_) (AllReadyH.cons rfl (fun K hK => ?_) AllReadyH.nil)
      · go_simp
        refine hK.out _ _ trivial (fun hHeldN => ?_)
        clear hK K hHeld
        have hHeld := hHeldN
        clear hHeldN
        try simp only [Act.put, List.setIfInBounds_toArray, List.set_cons_zero, List.set_cons_succ]
        refine wpAnyH_take (i := 4) (v := ?_) rfl (by kernel_rfl) (by kernel_rfl) (by kernel_rfl) (fun _ _ _ h => h) (Or.inl ⟨by rfl, ?hT14⟩) (by assumption) ?_
        case hT14 => ((intro w hSw; (try dsimp only at hSw); go_simp); try (with_reducible rfl))
        try simp only [Act.put, List.setIfInBounds_toArray, List.set_cons_zero, List.set_cons_succ]
        refine wpAnyH_ready (rs := [6]) (by kernel_rfl) (by simp) ?_
        refine AllReadyH.cons rfl (fun K hK => ?_) AllReadyH.nil
        go_simp
        refine hK.out _ _ trivial (fun hHeldN => ?_)
        clear hK K hHeld
        have hHeld := hHeldN
        clear hHeldN
        try simp only [Act.put, List.setIfInBounds_toArray, List.set_cons_zero, List.set_cons_succ]
        refine wpAnyH_ready (rs := [7]) (by kernel_rfl) (by simp) ?_
        refine AllReadyH.cons rfl (fun K hK => ?_) AllReadyH.nil
        refine wp_append_row (.tmp 49) (.tmp 51) _ _ rfl (.slice (some ⟨bb, oo, none⟩) (q + 1) (q + 1)) (.slice (some ⟨W0.drew.heap.size, 0, none⟩) 1 1) rfl rfl (HA.out _ _ hB0.drew) ?_
        rintro r W2 ⟨a2, c2, rfl, hO, hb⟩
        have kT2 : Blk W2 w.heap.size #[.int .i64 s, .int .i64 p, .int .i64 g, .int .i64 l, .int .i64 c, .int .i64 nx, .slice (some ⟨bb, oo, none⟩) (q + 1) cap] 26 := Blk.later hb kT0.drew
        have kR2 : Blk W2 (w.heap.size + 1) #[.int .i64 0, .int .i64 0, .int .i64 0, .int .i64 0, .int .i64 0, .int .i64 0, .slice none 0 0] 26 := Blk.later hb kR0.drew
        have kP2 : Blk W2 W1.heap.size #[.int .i64 nx, .int .i64 c, .int .u8 0, .bool false] 43 := Blk.later hb kP0.drew
        have hB2 : Below w.heap.size w W2 := belowThru hB0.drew hb
        obtain ⟨aT2, bT2⟩ := kT2.read; have yT2 := kT2.lt
        clear hb
        refine hK.out _ _ trivial (fun hHeldN => ?_)
        clear hK K hHeld
        have hHeld := hHeldN
        clear hHeldN
        try simp only [Act.put, List.setIfInBounds_toArray, List.set_cons_zero, List.set_cons_succ]
        refine wpAnyH_take (i := 8) (v := ?_) rfl (by kernel_rfl) (by kernel_rfl) (by kernel_rfl) (fun _ _ _ h => h) (Or.inl ⟨by rfl, ?hT15⟩) (by assumption) ?_
        case hT15 => ((intro w hSw; (try dsimp only at hSw); go_simp); try (with_reducible rfl))
        try simp only [Act.put, List.setIfInBounds_toArray, List.set_cons_zero, List.set_cons_succ]
        refine wpAnyH_ready (rs := [9]) (by kernel_rfl) (by simp) ?_
        refine AllReadyH.cons rfl (fun K hK => ?_) AllReadyH.nil
        go_simp
        refine hK.out _ _ trivial (fun hHeldN => ?_)
        clear hK K hHeld
        have hHeld := hHeldN
        clear hHeldN
        try simp only [Act.put, List.setIfInBounds_toArray, List.set_cons_zero, List.set_cons_succ]
        refine wpAnyH_done (by kernel_rfl) ?_ _
        go_wp2_with fail
        go_meet
        case rel =>
          refine ⟨a2, c2, hO.out.other (hO.out.ne kT2 (by decide)), ?_, Blk.other kR2 (by simp), Blk.other kP2 (by simp; omega), hB2.setCell (Nat.le_refl _) _⟩
          exact (Blk.set (i := 6) (v := .slice a2 ((q + 1) + 1) c2) kT2 : Blk _ w.heap.size #[.int .i64 s, .int .i64 p, .int .i64 g, .int .i64 l, .int .i64 c, .int .i64 nx, .slice a2 ((q + 1) + 1) c2] 26)
      · go_simp
        refine hK.out _ _ trivial (fun hHeldN => ?_)
        clear hK K hHeld
        have hHeld := hHeldN
        clear hHeldN
        try simp only [Act.put, List.setIfInBounds_toArray, List.set_cons_zero, List.set_cons_succ]
        refine wpAnyH_ready (rs := [1]) (by kernel_rfl) (by simp) ?_
        refine AllReadyH.cons rfl (fun K hK => ?_) AllReadyH.nil
        go_simp
        refine hK.out _ _ trivial (fun hHeldN => ?_)
        clear hK K hHeld
        have hHeld := hHeldN
        clear hHeldN
        try simp only [Act.put, List.setIfInBounds_toArray, List.set_cons_zero, List.set_cons_succ]
        refine wpAnyH_take (i := 4) (v := ?_) rfl (by kernel_rfl) (by kernel_rfl) (by kernel_rfl) (fun _ _ _ h => h) (Or.inl ⟨by rfl, ?hT16⟩) (by assumption) ?_
        case hT16 => ((intro w hSw; (try dsimp only at hSw); go_simp); try (with_reducible rfl))
        try simp only [Act.put, List.setIfInBounds_toArray, List.set_cons_zero, List.set_cons_succ]
        refine wpAnyH_ready (rs := [7]) (by kernel_rfl) (by simp) ?_
        refine AllReadyH.cons rfl (fun K hK => ?_) AllReadyH.nil
        refine wp_append_row (.tmp 49) (.tmp 51) _ _ rfl (.slice (some ⟨bb, oo, none⟩) (q + 1) (q + 1)) (.slice (some ⟨W0.drew.heap.size, 0, none⟩) 1 1) rfl rfl (HA.out _ _ hB0.drew) ?_
        rintro r W2 ⟨a2, c2, rfl, hO, hb⟩
        have kT2 : Blk W2 w.heap.size #[.int .i64 s, .int .i64 p, .int .i64 g, .int .i64 l, .int .i64 c, .int .i64 nx, .slice (some ⟨bb, oo, none⟩) (q + 1) cap] 26 := Blk.later hb kT0.drew
        have kR2 : Blk W2 (w.heap.size + 1) #[.int .i64 0, .int .i64 0, .int .i64 0, .int .i64 0, .int .i64 0, .int .i64 0, .slice none 0 0] 26 := Blk.later hb kR0.drew
        have kP2 : Blk W2 W1.heap.size #[.int .i64 nx, .int .i64 c, .int .u8 0, .bool false] 43 := Blk.later hb kP0.drew
        have hB2 : Below w.heap.size w W2 := belowThru hB0.drew hb
        obtain ⟨aT2, bT2⟩ := kT2.read; have yT2 := kT2.lt
        clear hb
        refine hK.out _ _ trivial (fun hHeldN => ?_)
        clear hK K hHeld
        have hHeld := hHeldN
        clear hHeldN
        try simp only [Act.put, List.setIfInBounds_toArray, List.set_cons_zero, List.set_cons_succ]
        refine wpAnyH_take (i := 8) (v := ?_) rfl (by kernel_rfl) (by kernel_rfl) (by kernel_rfl) (fun _ _ _ h => h) (Or.inl ⟨by rfl, ?hT17⟩) (by assumption) ?_
        case hT17 => ((intro w hSw; (try dsimp only at hSw); go_simp); try (with_reducible rfl))
        try simp only [Act.put, List.setIfInBounds_toArray, List.set_cons_zero, List.set_cons_succ]
        refine wpAnyH_ready (rs := [9]) (by kernel_rfl) (by simp) ?_
        refine AllReadyH.cons rfl (fun K hK => ?_) AllReadyH.nil
        go_simp
        refine hK.out _ _ trivial (fun hHeldN => ?_)
        clear hK K hHeld
        have hHeld := hHeldN
        clear hHeldN
        try simp only [Act.put, List.setIfInBounds_toArray, List.set_cons_zero, List.set_cons_succ]
        refine wpAnyH_done (by kernel_rfl) ?_ _
        go_wp2_with fail
        go_meet
        case rel =>
          refine ⟨a2, c2, hO.out.other (hO.out.ne kT2 (by decide)), ?_, Blk.other kR2 (by simp), Blk.other kP2 (by simp; omega), hB2.setCell (Nat.le_refl _) _⟩
          exact (Blk.set (i := 6) (v := .slice a2 ((q + 1) + 1) c2) kT2 : Blk _ w.heap.size #[.int .i64 s, .int .i64 p, .int .i64 g, .int .i64 l, .int .i64 c, .int .i64 nx, .slice a2 ((q + 1) + 1) c2] 26)
  case rest =>
    clear aT bT aR bR aP bP kT0 kR0 kP0 hB0 HA yP
    obtain ⟨a2, c2, hO, kT2, kR2, kP2, hB2⟩ := hcut
    obtain ⟨W2, rfl⟩ : ∃ z, z = wc := ⟨_, rfl⟩
    obtain ⟨aT2, bT2⟩ := kT2.read; have yT2 := kT2.lt
    go_wp2_with fail
    obtain ⟨W3, hW3⟩ : ∃ W, W2.setCell ⟨w.heap.size, 5, none⟩ (.int .i64 (nx + 1)) = W := ⟨_, rfl⟩
    have kT3 : Blk W3 w.heap.size #[.int .i64 s, .int .i64 p, .int .i64 g, .int .i64 l, .int .i64 c, .int .i64 (nx + 1), .slice a2 ((q + 1) + 1) c2] 26 := by rw [← hW3]; exact Blk.set (i := 5) (v := .int .i64 (nx + 1)) kT2
    have kR3 : Blk W3 (w.heap.size + 1) #[.int .i64 0, .int .i64 0, .int .i64 0, .int .i64 0, .int .i64 0, .int .i64 0, .slice none 0 0] 26 := by rw [← hW3]; exact Blk.other kR2 (by simp)
    have kP3 : Blk W3 W1.heap.size #[.int .i64 nx, .int .i64 c, .int .u8 0, .bool false] 43 := by rw [← hW3]; exact Blk.other kP2 (by simp; omega)
    have hO3 : OwnK 43 4 sn1 w.heap.size W3 (.slice a2 ((q + 1) + 1) c2) (xs ++ [(nx, c, 0, false)]) := by rw [← hW3]; exact hO.out.other (hO.out.ne kT2 (by decide))
    have hB3 : Below w.heap.size w W3 := by rw [← hW3]; exact hB2.setCell (Nat.le_refl _) _
    have hnR := hO3.ne kR3 (by decide)
    have hO4 := Lib.hid (hO3.other7 (b := w.heap.size + 1) (.int .i64 s) (.int .i64 p) (.int .i64 g) (.int .i64 l) (.int .i64 c) (.int .i64 (nx + 1)) (.slice a2 ((q + 1) + 1) c2) hnR)
    have kR4 := kR3.set7 (.int .i64 s) (.int .i64 p) (.int .i64 g) (.int .i64 l) (.int .i64 c) (.int .i64 (nx + 1)) (.slice a2 ((q + 1) + 1) c2)
    rw [hW3]
    clear hW3 kT2 kR2 kP2 hB2 aT2 bT2 hO hO3 hnR
    obtain ⟨aT3, bT3⟩ := kT3.read; have yT3 := kT3.lt
    obtain ⟨aR3, bR3⟩ := kR3.read; have yR3 := kR3.lt
    obtain ⟨aP3, bP3⟩ := kP3.read; have yP3 := kP3.lt
    go_region
    all_goals go_wp2_with fail
    all_goals have q2 := kR4.drew.cells
    all_goals exact bodyPost_ret (v := .tuple #[.agg #[.int .i64 s, .int .i64 p, .int .i64 g, .int .i64 l, .int .i64 c, .int .i64 (nx + 1), .slice a2 ((q + 1) + 1) c2], .int .i64 nx, .int .i64 0]) (by simp only [results, Try.results10]; go_simp) rfl ⟨⟨_, rfl, hO4.out.drew⟩, by (repeat' (first | (with_reducible exact Below.refl _ _) | (with_reducible assumption) | (with_reducible refine belowThru ?_ (by assumption)) | (with_reducible refine belowAlloc ?_) | (with_reducible refine Below.setCell ?_ (by first | omega | (simp; done) | (simp; omega)) _) | (with_reducible refine Below.drew ?_) | (with_reducible refine below_drewN ?_ _)))⟩
end Go.Proofs.Ytnkpejinnbiocaa
